/- A Browser: read, copied, compared, sized, marked. No condition of its own. -/
import Derived.Test.YtjgcgipglmhgeaaGreatDTabT
import Derived.Test.YtjgcgipglmhgeaaGreatDTabS
import Derived.Test.YtjgcgipglmhgeaaGreatDTabE
import Derived.Test.YtjgcgipglmhgeaaGreatDTabM
import Derived.Test.YtjgcgipglmhgeaaGreatDPackageT
import Derived.Test.YtjgcgipglmhgeaaGreatDPackageS
import Derived.Test.YtjgcgipglmhgeaaGreatDPackageE
import Derived.Test.YtjgcgipglmhgeaaGreatDPackageM
import Derived.Test.YtjgcgipglmhgeaaGreatTLimit
import Derived.Test.YtjgcgipglmhgeaaGreatTStored
import Derived.StillTailTactics
import Derived.Deep.RegionHeld3
import Derived.Deep.DeepCutAuto
namespace Go.Proofs.YtjgcgipglmhgeaaGreat
open Go Go.ChangeShapes Go.WideShapes Go.ChangeAt Go.RowKit Go.Lib
set_option linter.unusedVariables false
set_option linter.unusedSimpArgs false
set_option maxRecDepth 100000
set_option maxHeartbeats 4000000

/-- A Browser as it lies in memory. -/
structure DBrowser where
  p0 : Int
  A1 : Option Addr
  n1 : Nat
  c1 : Nat
  l1 : List DTab
  A2 : Option Addr
  n2 : Nat
  c2 : Nat
  l2 : List DPackage
  A3 : Option Addr
  n3 : Nat
  c3 : Nat
  l3 : List TGrant
  A4 : Option Addr
  n4 : Nat
  c4 : Nat
  l4 : List TLimit
  A5 : Option Addr
  n5 : Nat
  c5 : Nat
  l5 : List TRule
  A6 : Option Addr
  n6 : Nat
  c6 : Nat
  l6 : List TStored
  p7 : Int
/-- A Browser as data. -/
structure MBrowser where
  p0 : Int
  l1 : List MTab
  l2 : List MPackage
  l3 : List TGrant
  l4 : List TLimit
  l5 : List TRule
  l6 : List TStored
  p7 : Int
def DBrowser.dat (x : DBrowser) : MBrowser := ⟨x.p0, x.l1.map DTab.dat, x.l2.map DPackage.dat, x.l3, x.l4, x.l5, x.l6, x.p7⟩
def MBrowser.ok (x : MBrowser) : Prop := (Lit.int .i64 x.p0).wf = true ∧ (∀ t ∈ x.l1, t.ok) ∧ (∀ t ∈ x.l2, t.ok) ∧ cGrantOk x.l3 ∧ cLimitOk x.l4 ∧ cRuleOk x.l5 ∧ cStoredOk x.l6 ∧ (Lit.int .i64 x.p7).wf = true
/-- How many elements it leads to. -/
def MBrowser.sz (x : MBrowser) : Nat := (x.l1.length + MTab.szs x.l1) + (x.l2.length + MPackage.szs x.l2) + x.l3.length + x.l4.length + x.l5.length + x.l6.length
def DBrowser.cnt (x : DBrowser) : Nat := (DTab.cnts x.l1) + (DPackage.cnts x.l2) + (x.n3 * 7) + (x.n4 * 4) + (x.n5 * 8) + (x.n6 * 4)
/-- Its slices read so, in blocks from lo on and below hi. -/
def DBrowser.rd (w : World) (lo hi : Nat) (x : DBrowser) : Prop := RdTab w lo hi x.A1 x.n1 x.l1 ∧ RdPackage w lo hi x.A2 x.n2 x.l2 ∧ (x.n3 ≤ 9223372036854775807 ∧ Rd w lo hi 7 x.A3 x.n3 (cGrant x.l3)) ∧ (x.n4 ≤ 9223372036854775807 ∧ Rd w lo hi 4 x.A4 x.n4 (cLimit x.l4)) ∧ (x.n5 ≤ 9223372036854775807 ∧ Rd w lo hi 8 x.A5 x.n5 (cRule x.l5)) ∧ (x.n6 ≤ 9223372036854775807 ∧ Rd w lo hi 4 x.A6 x.n6 (cStored x.l6))
/-- Its slices are the maker's own, one behind the other. -/
def DBrowser.fr (w : World) (lo hi : Nat) (x : DBrowser) : Prop := ∃ (lo1 hi1 lo2 hi2 lo3 hi3 lo4 hi4 lo5 hi5 lo6 hi6 : Nat), FrTab w lo1 hi1 x.A1 x.n1 x.c1 x.l1 ∧ FrPackage w lo2 hi2 x.A2 x.n2 x.c2 x.l2 ∧ (x.n3 ≤ 9223372036854775807 ∧ Fr w lo3 hi3 108 7 x.A3 x.n3 x.c3 (cGrant x.l3)) ∧ (x.n4 ≤ 9223372036854775807 ∧ Fr w lo4 hi4 114 4 x.A4 x.n4 x.c4 (cLimit x.l4)) ∧ (x.n5 ≤ 9223372036854775807 ∧ Fr w lo5 hi5 119 8 x.A5 x.n5 x.c5 (cRule x.l5)) ∧ (x.n6 ≤ 9223372036854775807 ∧ Fr w lo6 hi6 124 4 x.A6 x.n6 x.c6 (cStored x.l6)) ∧ lo ≤ lo1 ∧ lo1 ≤ hi1 ∧ hi1 ≤ lo2 ∧ lo2 ≤ hi2 ∧ hi2 ≤ lo3 ∧ lo3 ≤ hi3 ∧ hi3 ≤ lo4 ∧ lo4 ≤ hi4 ∧ hi4 ≤ lo5 ∧ lo5 ≤ hi5 ∧ hi5 ≤ lo6 ∧ lo6 ≤ hi6 ∧ hi6 ≤ hi
section
variable {w w' : World} {lo hi lo' hi' : Nat} {x : DBrowser}
theorem DBrowser.rd.keep (h : x.rd w lo hi) (hk : ∀ b, lo ≤ b → b < hi → b < w.heap.size → w'.heap[b]? = w.heap[b]?) : x.rd w' lo hi := by
  obtain ⟨h1, h2, h3, h4, h5, h6⟩ := h
  exact ⟨h1.keep (hk), h2.keep (hk), ⟨h3.1, h3.2.keep (hk)⟩, ⟨h4.1, h4.2.keep (hk)⟩, ⟨h5.1, h5.2.keep (hk)⟩, ⟨h6.1, h6.2.keep (hk)⟩⟩
theorem DBrowser.rd.new (h : x.rd w lo hi) (hb : Below w.heap.size w w') : x.rd w' lo hi := h.keep fun b _ _ h3 => hb.block b h3
theorem DBrowser.rd.alloc (h : x.rd w lo hi) (o : Obj) : x.rd (w.alloc o) lo hi := h.keep fun b _ _ h3 => Below.heap_alloc w o b h3
theorem DBrowser.rd.chg (h : x.rd w lo hi) (hc : Chg lo' hi' w w') (hd : hi ≤ lo' ∨ hi' ≤ lo ∨ hi' ≤ lo') : x.rd w' lo hi := h.keep fun b h1 h2 h3 => hc.block b h3 (by omega)
theorem DBrowser.rd.drw (h : x.rd w lo hi) : x.rd w.drew lo hi := h.keep fun _ _ _ _ => rfl
theorem DBrowser.rd.put (h : x.rd w lo hi) {p : Addr} (hp : p.block < lo ∨ hi ≤ p.block) (u : Value) : x.rd (w.setCell p u) lo hi := h.keep fun b h1 h2 _ => Below.heap_setCell w p u b (by rintro rfl; omega)
theorem DBrowser.fr.keep (h : x.fr w lo hi) (hk : ∀ b, lo ≤ b → b < hi → b < w.heap.size → w'.heap[b]? = w.heap[b]?) : x.fr w' lo hi := by
  obtain ⟨lo1, hi1, lo2, hi2, lo3, hi3, lo4, hi4, lo5, hi5, lo6, hi6, h1, h2, h3, h4, h5, h6, d0, d1, d2, d3, d4, d5, d6, d7, d8, d9, d10, d11, d12⟩ := h
  exact ⟨lo1, hi1, lo2, hi2, lo3, hi3, lo4, hi4, lo5, hi5, lo6, hi6, h1.keep (fun b h1 h2 h3 => hk b (by omega) (by omega) h3), h2.keep (fun b h1 h2 h3 => hk b (by omega) (by omega) h3), ⟨h3.1, h3.2.keep (fun b h1 h2 h3 => hk b (by omega) (by omega) h3)⟩, ⟨h4.1, h4.2.keep (fun b h1 h2 h3 => hk b (by omega) (by omega) h3)⟩, ⟨h5.1, h5.2.keep (fun b h1 h2 h3 => hk b (by omega) (by omega) h3)⟩, ⟨h6.1, h6.2.keep (fun b h1 h2 h3 => hk b (by omega) (by omega) h3)⟩, d0, d1, d2, d3, d4, d5, d6, d7, d8, d9, d10, d11, d12⟩
theorem DBrowser.fr.new (h : x.fr w lo hi) (hb : Below w.heap.size w w') : x.fr w' lo hi := h.keep fun b _ _ h3 => hb.block b h3
theorem DBrowser.fr.alloc (h : x.fr w lo hi) (o : Obj) : x.fr (w.alloc o) lo hi := h.keep fun b _ _ h3 => Below.heap_alloc w o b h3
theorem DBrowser.fr.chg (h : x.fr w lo hi) (hc : Chg lo' hi' w w') (hd : hi ≤ lo' ∨ hi' ≤ lo ∨ hi' ≤ lo') : x.fr w' lo hi := h.keep fun b h1 h2 h3 => hc.block b h3 (by omega)
theorem DBrowser.fr.drw (h : x.fr w lo hi) : x.fr w.drew lo hi := h.keep fun _ _ _ _ => rfl
theorem DBrowser.fr.put (h : x.fr w lo hi) {p : Addr} (hp : p.block < lo ∨ hi ≤ p.block) (u : Value) : x.fr (w.setCell p u) lo hi := h.keep fun b h1 h2 _ => Below.heap_setCell w p u b (by rintro rfl; omega)
theorem DBrowser.fr.rd (h : x.fr w lo hi) : x.rd w lo hi := by
  obtain ⟨lo1, hi1, lo2, hi2, lo3, hi3, lo4, hi4, lo5, hi5, lo6, hi6, h1, h2, h3, h4, h5, h6, d0, d1, d2, d3, d4, d5, d6, d7, d8, d9, d10, d11, d12⟩ := h
  exact ⟨h1.rd.mono (by omega) (by omega), h2.rd.mono (by omega) (by omega), ⟨h3.1, h3.2.rd.mono (by omega) (by omega)⟩, ⟨h4.1, h4.2.rd.mono (by omega) (by omega)⟩, ⟨h5.1, h5.2.rd.mono (by omega) (by omega)⟩, ⟨h6.1, h6.2.rd.mono (by omega) (by omega)⟩⟩
theorem DBrowser.rd_nw (hb : Below w.heap.size w w') (h : x.rd w lo hi) : x.rd w' lo hi := h.new hb
theorem DBrowser.fr_nw (hb : Below w.heap.size w w') (h : x.fr w lo hi) : x.fr w' lo hi := h.new hb
theorem DBrowser.rd.len (h : x.rd w lo hi) : x.l1.length = x.n1 ∧ x.l2.length = x.n2 ∧ x.l3.length = x.n3 ∧ x.l4.length = x.n4 ∧ x.l5.length = x.n5 ∧ x.l6.length = x.n6 := by
  obtain ⟨h1, h2, h3, h4, h5, h6⟩ := h
  exact ⟨h1.len, h2.len, rd_len TGrant.len h3.2 (by decide), rd_len TLimit.len h4.2 (by decide), rd_len TRule.len h5.2 (by decide), rd_len TStored.len h6.2 (by decide)⟩
theorem DBrowser.rd.old (h : x.rd w lo hi) : x.rd w 0 w.heap.size := by
  obtain ⟨h1, h2, h3, h4, h5, h6⟩ := h
  exact ⟨h1.old, h2.old, ⟨h3.1, h3.2.old (by decide)⟩, ⟨h4.1, h4.2.old (by decide)⟩, ⟨h5.1, h5.2.old (by decide)⟩, ⟨h6.1, h6.2.old (by decide)⟩⟩
theorem DBrowser.rd.sz (h : x.rd w lo hi) : x.dat.sz = (x.n1 + MTab.szs (x.l1.map DTab.dat)) + (x.n2 + MPackage.szs (x.l2.map DPackage.dat)) + x.n3 + x.n4 + x.n5 + x.n6 := by
  obtain ⟨h1, h2, h3, h4, h5, h6⟩ := h.len
  simp only [MBrowser.sz, DBrowser.dat, List.length_map]
  omega
end

def DBrowser.caps (x : DBrowser) : Prop := x.n3 ≤ x.c3 ∧ x.n4 ≤ x.c4 ∧ x.n5 ≤ x.c5 ∧ x.n6 ≤ x.c6 ∧ (∀ t ∈ x.l1, t.caps) ∧ (∀ t ∈ x.l2, t.caps) ∧ x.n1 ≤ x.c1 ∧ x.n2 ≤ x.c2
theorem DBrowser.fr.caps {w : World} {lo hi : Nat} {x : DBrowser} (h : x.fr w lo hi) : x.caps := by
  obtain ⟨lo1, hi1, lo2, hi2, lo3, hi3, lo4, hi4, lo5, hi5, lo6, hi6, h1, h2, h3, h4, h5, h6, d0, d1, d2, d3, d4, d5, d6, d7, d8, d9, d10, d11, d12⟩ := h
  refine ⟨h3.2.cap, h4.2.cap, h5.2.cap, h6.2.cap, ?_, ?_, ?_, ?_⟩
  · obtain ⟨_, m, _, _, _, hf⟩ := h1
    exact DTab.frl_caps hf
  · obtain ⟨_, m, _, _, _, hf⟩ := h2
    exact DPackage.frl_caps hf
  · obtain ⟨_, m, _, _, hf, _⟩ := h1
    exact hf.cap
  · obtain ⟨_, m, _, _, hf, _⟩ := h2
    exact hf.cap

theorem DBrowser.rd.cnt_le {w : World} {lo hi : Nat} {x : DBrowser} (h : x.rd w lo hi) : x.cnt ≤ 8 * x.dat.sz := by
  rw [h.sz]
  have hl := h.len
  have h1 := DTab.cnts_sz h.1.2.2
  have h2 := DPackage.cnts_sz h.2.1.2.2
  simp only [DBrowser.cnt]
  omega

/-- A call that answers a new Browser of this data. -/
def MakesBrowser (m : MBrowser) (w : World) (e : Ending) (w' : World) : Prop :=
  ∃ y : DBrowser, e = .returned (.agg #[.int .i64 y.p0, .slice y.A1 y.n1 y.c1, .slice y.A2 y.n2 y.c2, .slice y.A3 y.n3 y.c3, .slice y.A4 y.n4 y.c4, .slice y.A5 y.n5 y.c5, .slice y.A6 y.n6 y.c6, .int .i64 y.p7]) ∧ y.dat = m ∧ y.fr w' w.heap.size w'.heap.size ∧ Below w.heap.size w w'

section
variable {H : Type} {enc : TypeId × Value → H}
theorem open_browser {W : World} {base : Nat} {v : Value} {d : DataW H} {p : List MemPlace} (hv : Value.okWide Tryz.prog W .any base 29 v)
    (h : DataW.Trod enc Tryz.prog W 0 (fun _ => true) true 29 v d p) (hlt : ∀ x ∈ p, x.block < W.heap.size) :
    ∃ x : DBrowser, v = .agg #[.int .i64 x.p0, .slice x.A1 x.n1 x.c1, .slice x.A2 x.n2 x.c2, .slice x.A3 x.n3 x.c3, .slice x.A4 x.n4 x.c4, .slice x.A5 x.n5 x.c5, .slice x.A6 x.n6 x.c6, .int .i64 x.p7] ∧ x.rd W 0 W.heap.size ∧ Hid x.dat.ok := by
  obtain ⟨cs, rfl, hsz⟩ := okWide_struct Tryz.underlying29 hv
  obtain ⟨fuel, hq⟩ := h
  obtain ⟨ys, n, _, hx, hlen, hyl, hf⟩ := DataW.trod_struct Tryz.underlying29 hq
  have hx2 := congrArg Prod.snd hx
  simp only at hx2
  subst hx2
  have hlen : cs.size = 8 := hsz.trans (by kernel_rfl)
  have hyl : ys.length = 8 := hyl
  have hlt' : ∀ (i : Nat) (y : DataW H × List MemPlace), ys[i]? = some y → ∀ x ∈ y.2, x.block < W.heap.size := fun i y hy x hx => hlt x (List.mem_flatMap.2 ⟨y, List.mem_of_getElem? hy, hx⟩)
  obtain ⟨cl⟩ := cs
  match cl, hlen with
  | [z0, z1, z2, z3, z4, z5, z6, z7], _ =>
    have h0 := hf 0 _ rfl
    have h0' : DataW.trod enc Tryz.prog W 0 (fun _ => true) true n 3 [z0] = some (ys[0]'(by omega)) := by
      refine Eq.trans ?_ (h0.trans (List.getElem?_eq_getElem (by omega)))
      rfl
    obtain ⟨x0, e0, _, w0⟩ := DataW.trod_int Tryz.underlying3 h0'
    have h1 := hf 1 _ rfl
    have h1' : DataW.trod enc Tryz.prog W 0 (fun _ => true) true n 22 [z1] = some (ys[1]'(by omega)) := by
      refine Eq.trans ?_ (h1.trans (List.getElem?_eq_getElem (by omega)))
      rfl
    obtain ⟨A1, n1, c1, l1, e1, r1, k1⟩ := trod_tabs (d := (ys[1]'(by omega)).1) (p := (ys[1]'(by omega)).2) h1' (hlt' 1 _ (List.getElem?_eq_getElem (by omega)))
    have h2 := hf 2 _ rfl
    have h2' : DataW.trod enc Tryz.prog W 0 (fun _ => true) true n 23 [z2] = some (ys[2]'(by omega)) := by
      refine Eq.trans ?_ (h2.trans (List.getElem?_eq_getElem (by omega)))
      rfl
    obtain ⟨A2, n2, c2, l2, e2, r2, k2⟩ := trod_packages (d := (ys[2]'(by omega)).1) (p := (ys[2]'(by omega)).2) h2' (hlt' 2 _ (List.getElem?_eq_getElem (by omega)))
    have h3 := hf 3 _ rfl
    have h3' : DataW.trod enc Tryz.prog W 0 (fun _ => true) true n 24 [z3] = some (ys[3]'(by omega)) := by
      refine Eq.trans ?_ (h3.trans (List.getElem?_eq_getElem (by omega)))
      rfl
    obtain ⟨A3, n3, c3, l3, e3, m3, r3, k3⟩ := rows_trod (c := TGrant.cells) (fit := TGrant.fit) (d := (ys[3]'(by omega)).1) (p := (ys[3]'(by omega)).2) Tryz.underlying24 (by kernel_rfl) TGrant.len (by decide) (fun h => read_grant h) h3' (hlt' 3 _ (List.getElem?_eq_getElem (by omega)))
    have h4 := hf 4 _ rfl
    have h4' : DataW.trod enc Tryz.prog W 0 (fun _ => true) true n 25 [z4] = some (ys[4]'(by omega)) := by
      refine Eq.trans ?_ (h4.trans (List.getElem?_eq_getElem (by omega)))
      rfl
    obtain ⟨A4, n4, c4, l4, e4, m4, r4, k4⟩ := rows_trod (c := TLimit.cells) (fit := TLimit.fit) (d := (ys[4]'(by omega)).1) (p := (ys[4]'(by omega)).2) Tryz.underlying25 (by kernel_rfl) TLimit.len (by decide) (fun h => read_limit h) h4' (hlt' 4 _ (List.getElem?_eq_getElem (by omega)))
    have h5 := hf 5 _ rfl
    have h5' : DataW.trod enc Tryz.prog W 0 (fun _ => true) true n 26 [z5] = some (ys[5]'(by omega)) := by
      refine Eq.trans ?_ (h5.trans (List.getElem?_eq_getElem (by omega)))
      rfl
    obtain ⟨A5, n5, c5, l5, e5, m5, r5, k5⟩ := rows_trod (c := TRule.cells) (fit := TRule.fit) (d := (ys[5]'(by omega)).1) (p := (ys[5]'(by omega)).2) Tryz.underlying26 (by kernel_rfl) TRule.len (by decide) (fun h => read_rule h) h5' (hlt' 5 _ (List.getElem?_eq_getElem (by omega)))
    have h6 := hf 6 _ rfl
    have h6' : DataW.trod enc Tryz.prog W 0 (fun _ => true) true n 27 [z6] = some (ys[6]'(by omega)) := by
      refine Eq.trans ?_ (h6.trans (List.getElem?_eq_getElem (by omega)))
      rfl
    obtain ⟨A6, n6, c6, l6, e6, m6, r6, k6⟩ := rows_trod (c := TStored.cells) (fit := TStored.fit) (d := (ys[6]'(by omega)).1) (p := (ys[6]'(by omega)).2) Tryz.underlying27 (by kernel_rfl) TStored.len (by decide) (fun h => read_stored h) h6' (hlt' 6 _ (List.getElem?_eq_getElem (by omega)))
    have h7 := hf 7 _ rfl
    have h7' : DataW.trod enc Tryz.prog W 0 (fun _ => true) true n 3 [z7] = some (ys[7]'(by omega)) := by
      refine Eq.trans ?_ (h7.trans (List.getElem?_eq_getElem (by omega)))
      rfl
    obtain ⟨x7, e7, _, w7⟩ := DataW.trod_int Tryz.underlying3 h7'
    refine ⟨⟨x0, A1, n1, c1, l1, A2, n2, c2, l2, A3, n3, c3, l3, A4, n4, c4, l4, A5, n5, c5, l5, A6, n6, c6, l6, x7⟩, ?_, ⟨r1, r2, ⟨Nat.le_trans m3 (by decide), r3⟩, ⟨Nat.le_trans m4 (by decide), r4⟩, ⟨Nat.le_trans m5 (by decide), r5⟩, ⟨Nat.le_trans m6 (by decide), r6⟩⟩, Lib.hid ⟨w0, (fun t ht => by obtain ⟨y, hy, rfl⟩ := List.mem_map.1 ht; exact k1.out y hy), (fun t ht => by obtain ⟨y, hy, rfl⟩ := List.mem_map.1 ht; exact k2.out y hy), k3, k4, k5, k6, w7⟩⟩
    simp only [List.cons.injEq, and_true] at e0 e1 e2 e3 e4 e5 e6 e7
    simp_all
end

theorem to_browser (x : DBrowser) (lo hi : Nat) (w : World) (hz : x.dat.sz ≤ 1048576) (h : x.rd w lo hi) :
    Calls Tryz.prog 6 #[.agg #[.int .i64 x.p0, .slice x.A1 x.n1 x.c1, .slice x.A2 x.n2 x.c2, .slice x.A3 x.n3 x.c3, .slice x.A4 x.n4 x.c4, .slice x.A5 x.n5 x.c5, .slice x.A6 x.n6 x.c6, .int .i64 x.p7]] w (MakesBrowser x.dat w) := by
  have HZ := h.sz
  rw [HZ] at hz
  clear HZ
  have HT : Hid (∀ t ∈ x.l1, t.dat.sz ≤ 1048576) := Lib.hid fun t ht => by
    obtain ⟨i, hi, rfl⟩ := List.mem_iff_getElem.1 ht
    have := MTab.szs_mem (x.l1.map DTab.dat) i (x.l1[i]).dat (by rw [List.getElem?_map, List.getElem?_eq_getElem hi]; rfl)
    omega
  have HP : Hid (∀ t ∈ x.l2, t.dat.sz ≤ 1048576) := Lib.hid fun t ht => by
    obtain ⟨i, hi, rfl⟩ := List.mem_iff_getElem.1 ht
    have := MPackage.szs_mem (x.l2.map DPackage.dat) i (x.l2[i]).dat (by rw [List.getElem?_map, List.getElem?_eq_getElem hi]; rfl)
    omega
  have hz' : x.n1 + x.n2 + x.n3 + x.n4 + x.n5 + x.n6 ≤ 1048576 := by omega
  clear hz
  obtain ⟨h1, h2, h3, h4, h5, h6⟩ := h
  have R1 := Lib.hid h1
  clear h1
  have R2 := Lib.hid h2
  clear h2
  have R3 := Lib.hid h3.2
  clear h3
  have R4 := Lib.hid h4.2
  clear h4
  have R5 := Lib.hid h5.2
  clear h5
  have R6 := Lib.hid h6.2
  clear h6
  have HB := Lib.hid (Below.refl w.heap.size w)
  go_enter Tryz.func6, Tryz.ntmps6
  go_wp2_with fail
  refine Calls.mono (to_tabs x.l1 x.A1 x.n1 x.c1 lo hi _ (by omega) HT.out (R1.out.new (by repeat (first | with_reducible exact Below.refl _ _ | (with_reducible exact HB.out) | (with_reducible refine Below.setCell ?_ (by first | omega | (simp; done) | (simp <;> omega)) _) | (with_reducible refine Below.alloc ?_ (by first | omega | (simp; done) | (simp <;> omega)) _) | (refine Below.alloc ?_ (by first | omega | (simp; done) | (simp <;> omega)) _) | (refine Below.setCell ?_ (by first | omega | (simp; done) | (simp <;> omega)) _))))) ?_
  rintro e w1 ⟨B1, d1, ys1, rfl, E1, F1, hb⟩
  replace E1 := Lib.hid E1
  obtain ⟨hc1, hf1⟩ := bcell hb
  have hs1 := hb.size
  (try simp at hs1)
  replace HB := Lib.hid (show Below w.heap.size w w1 from Below.trans (by repeat (first | with_reducible exact Below.refl _ _ | (with_reducible exact HB.out) | (with_reducible refine Below.setCell ?_ (by first | omega | (simp; done) | (simp <;> omega)) _) | (with_reducible refine Below.alloc ?_ (by first | omega | (simp; done) | (simp <;> omega)) _) | (refine Below.alloc ?_ (by first | omega | (simp; done) | (simp <;> omega)) _) | (refine Below.setCell ?_ (by first | omega | (simp; done) | (simp <;> omega)) _))) (hb.mono (by first | omega | (simp; done) | (simp <;> omega))))
  have z1_0 : w.heap.size < w1.heap.size := by omega
  have z1_1 : w.heap.size + 1 < w1.heap.size := by omega
  have z1_2 : w.heap.size + 1 + 1 < w1.heap.size := by omega
  clear hb
  replace F1 := Lib.hid (F1.mono (lo' := w.heap.size + 3) (by simp) (Nat.le_refl _))
  go_wp2_with fail
  refine Calls.mono (to_packages x.l2 x.A2 x.n2 x.c2 lo hi _ (by omega) HP.out (R2.out.new (by repeat (first | with_reducible exact Below.refl _ _ | (with_reducible exact HB.out) | (with_reducible refine Below.setCell ?_ (by first | omega | (simp; done) | (simp <;> omega)) _) | (with_reducible refine Below.alloc ?_ (by first | omega | (simp; done) | (simp <;> omega)) _) | (refine Below.alloc ?_ (by first | omega | (simp; done) | (simp <;> omega)) _) | (refine Below.setCell ?_ (by first | omega | (simp; done) | (simp <;> omega)) _))))) ?_
  rintro e w2 ⟨B2, d2, ys2, rfl, E2, F2, hb⟩
  replace E2 := Lib.hid E2
  replace F1 := Lib.hid (show FrTab w2 (w.heap.size + 3) (w1.heap.size) B1 x.n1 d1 ys1 from FrTab.new (by repeat (first | with_reducible exact F1.out | (with_reducible refine FrTab.put ?_ (by first | omega | (simp; done) | (simp <;> omega)) _) | (with_reducible refine FrTab.alloc ?_ _))) hb)
  obtain ⟨hc2, hf2⟩ := bcell hb
  have hs2 := hb.size
  (try simp at hs2)
  replace HB := Lib.hid (show Below w.heap.size w w2 from Below.trans (by repeat (first | with_reducible exact Below.refl _ _ | (with_reducible exact HB.out) | (with_reducible refine Below.setCell ?_ (by first | omega | (simp; done) | (simp <;> omega)) _) | (with_reducible refine Below.alloc ?_ (by first | omega | (simp; done) | (simp <;> omega)) _) | (refine Below.alloc ?_ (by first | omega | (simp; done) | (simp <;> omega)) _) | (refine Below.setCell ?_ (by first | omega | (simp; done) | (simp <;> omega)) _))) (hb.mono (by first | omega | (simp; done) | (simp <;> omega))))
  have z2_0 : w.heap.size < w2.heap.size := by omega
  have z2_1 : w.heap.size + 1 < w2.heap.size := by omega
  have z2_2 : w.heap.size + 1 + 1 < w2.heap.size := by omega
  clear hb
  replace F2 := Lib.hid (F2.mono (lo' := w1.heap.size) (by simp) (Nat.le_refl _))
  go_wp2_with fail
  refine Calls.mono (to_grant x.l3 x.A3 x.n3 x.c3 lo hi _ (by omega) (R3.out.new (by repeat (first | with_reducible exact Below.refl _ _ | (with_reducible exact HB.out) | (with_reducible refine Below.setCell ?_ (by first | omega | (simp; done) | (simp <;> omega)) _) | (with_reducible refine Below.alloc ?_ (by first | omega | (simp; done) | (simp <;> omega)) _) | (refine Below.alloc ?_ (by first | omega | (simp; done) | (simp <;> omega)) _) | (refine Below.setCell ?_ (by first | omega | (simp; done) | (simp <;> omega)) _))))) ?_
  rintro e w3 ⟨B3, d3, rfl, F3, hb⟩
  replace F1 := Lib.hid (show FrTab w3 (w.heap.size + 3) (w1.heap.size) B1 x.n1 d1 ys1 from FrTab.new (by repeat (first | with_reducible exact F1.out | (with_reducible refine FrTab.put ?_ (by first | omega | (simp; done) | (simp <;> omega)) _) | (with_reducible refine FrTab.alloc ?_ _))) hb)
  replace F2 := Lib.hid (show FrPackage w3 (w1.heap.size) (w2.heap.size) B2 x.n2 d2 ys2 from FrPackage.new (by repeat (first | with_reducible exact F2.out | (with_reducible refine FrPackage.put ?_ (by first | omega | (simp; done) | (simp <;> omega)) _) | (with_reducible refine FrPackage.alloc ?_ _))) hb)
  obtain ⟨hc3, hf3⟩ := bcell hb
  have hs3 := hb.size
  (try simp at hs3)
  replace HB := Lib.hid (show Below w.heap.size w w3 from Below.trans (by repeat (first | with_reducible exact Below.refl _ _ | (with_reducible exact HB.out) | (with_reducible refine Below.setCell ?_ (by first | omega | (simp; done) | (simp <;> omega)) _) | (with_reducible refine Below.alloc ?_ (by first | omega | (simp; done) | (simp <;> omega)) _) | (refine Below.alloc ?_ (by first | omega | (simp; done) | (simp <;> omega)) _) | (refine Below.setCell ?_ (by first | omega | (simp; done) | (simp <;> omega)) _))) (hb.mono (by first | omega | (simp; done) | (simp <;> omega))))
  have z3_0 : w.heap.size < w3.heap.size := by omega
  have z3_1 : w.heap.size + 1 < w3.heap.size := by omega
  have z3_2 : w.heap.size + 1 + 1 < w3.heap.size := by omega
  clear hb
  replace F3 := Lib.hid (F3.mono (lo' := w2.heap.size) (by simp) (Nat.le_refl _))
  go_wp2_with fail
  refine Calls.mono (to_limit x.l4 x.A4 x.n4 x.c4 lo hi _ (by omega) (R4.out.new (by repeat (first | with_reducible exact Below.refl _ _ | (with_reducible exact HB.out) | (with_reducible refine Below.setCell ?_ (by first | omega | (simp; done) | (simp <;> omega)) _) | (with_reducible refine Below.alloc ?_ (by first | omega | (simp; done) | (simp <;> omega)) _) | (refine Below.alloc ?_ (by first | omega | (simp; done) | (simp <;> omega)) _) | (refine Below.setCell ?_ (by first | omega | (simp; done) | (simp <;> omega)) _))))) ?_
  rintro e w4 ⟨B4, d4, rfl, F4, hb⟩
  replace F1 := Lib.hid (show FrTab w4 (w.heap.size + 3) (w1.heap.size) B1 x.n1 d1 ys1 from FrTab.new (by repeat (first | with_reducible exact F1.out | (with_reducible refine FrTab.put ?_ (by first | omega | (simp; done) | (simp <;> omega)) _) | (with_reducible refine FrTab.alloc ?_ _))) hb)
  replace F2 := Lib.hid (show FrPackage w4 (w1.heap.size) (w2.heap.size) B2 x.n2 d2 ys2 from FrPackage.new (by repeat (first | with_reducible exact F2.out | (with_reducible refine FrPackage.put ?_ (by first | omega | (simp; done) | (simp <;> omega)) _) | (with_reducible refine FrPackage.alloc ?_ _))) hb)
  replace F3 := Lib.hid (show Fr w4 (w2.heap.size) (w3.heap.size) 108 7 B3 x.n3 d3 (cGrant x.l3) from Fr.new (by repeat (first | with_reducible exact F3.out | (with_reducible refine Fr.put ?_ (by first | omega | (simp; done) | (simp <;> omega)) _) | (with_reducible refine Fr.alloc ?_ _))) hb)
  obtain ⟨hc4, hf4⟩ := bcell hb
  have hs4 := hb.size
  (try simp at hs4)
  replace HB := Lib.hid (show Below w.heap.size w w4 from Below.trans (by repeat (first | with_reducible exact Below.refl _ _ | (with_reducible exact HB.out) | (with_reducible refine Below.setCell ?_ (by first | omega | (simp; done) | (simp <;> omega)) _) | (with_reducible refine Below.alloc ?_ (by first | omega | (simp; done) | (simp <;> omega)) _) | (refine Below.alloc ?_ (by first | omega | (simp; done) | (simp <;> omega)) _) | (refine Below.setCell ?_ (by first | omega | (simp; done) | (simp <;> omega)) _))) (hb.mono (by first | omega | (simp; done) | (simp <;> omega))))
  have z4_0 : w.heap.size < w4.heap.size := by omega
  have z4_1 : w.heap.size + 1 < w4.heap.size := by omega
  have z4_2 : w.heap.size + 1 + 1 < w4.heap.size := by omega
  clear hb
  replace F4 := Lib.hid (F4.mono (lo' := w3.heap.size) (by simp) (Nat.le_refl _))
  go_wp2_with fail
  refine Calls.mono (to_rule x.l5 x.A5 x.n5 x.c5 lo hi _ (by omega) (R5.out.new (by repeat (first | with_reducible exact Below.refl _ _ | (with_reducible exact HB.out) | (with_reducible refine Below.setCell ?_ (by first | omega | (simp; done) | (simp <;> omega)) _) | (with_reducible refine Below.alloc ?_ (by first | omega | (simp; done) | (simp <;> omega)) _) | (refine Below.alloc ?_ (by first | omega | (simp; done) | (simp <;> omega)) _) | (refine Below.setCell ?_ (by first | omega | (simp; done) | (simp <;> omega)) _))))) ?_
  rintro e w5 ⟨B5, d5, rfl, F5, hb⟩
  replace F1 := Lib.hid (show FrTab w5 (w.heap.size + 3) (w1.heap.size) B1 x.n1 d1 ys1 from FrTab.new (by repeat (first | with_reducible exact F1.out | (with_reducible refine FrTab.put ?_ (by first | omega | (simp; done) | (simp <;> omega)) _) | (with_reducible refine FrTab.alloc ?_ _))) hb)
  replace F2 := Lib.hid (show FrPackage w5 (w1.heap.size) (w2.heap.size) B2 x.n2 d2 ys2 from FrPackage.new (by repeat (first | with_reducible exact F2.out | (with_reducible refine FrPackage.put ?_ (by first | omega | (simp; done) | (simp <;> omega)) _) | (with_reducible refine FrPackage.alloc ?_ _))) hb)
  replace F3 := Lib.hid (show Fr w5 (w2.heap.size) (w3.heap.size) 108 7 B3 x.n3 d3 (cGrant x.l3) from Fr.new (by repeat (first | with_reducible exact F3.out | (with_reducible refine Fr.put ?_ (by first | omega | (simp; done) | (simp <;> omega)) _) | (with_reducible refine Fr.alloc ?_ _))) hb)
  replace F4 := Lib.hid (show Fr w5 (w3.heap.size) (w4.heap.size) 114 4 B4 x.n4 d4 (cLimit x.l4) from Fr.new (by repeat (first | with_reducible exact F4.out | (with_reducible refine Fr.put ?_ (by first | omega | (simp; done) | (simp <;> omega)) _) | (with_reducible refine Fr.alloc ?_ _))) hb)
  obtain ⟨hc5, hf5⟩ := bcell hb
  have hs5 := hb.size
  (try simp at hs5)
  replace HB := Lib.hid (show Below w.heap.size w w5 from Below.trans (by repeat (first | with_reducible exact Below.refl _ _ | (with_reducible exact HB.out) | (with_reducible refine Below.setCell ?_ (by first | omega | (simp; done) | (simp <;> omega)) _) | (with_reducible refine Below.alloc ?_ (by first | omega | (simp; done) | (simp <;> omega)) _) | (refine Below.alloc ?_ (by first | omega | (simp; done) | (simp <;> omega)) _) | (refine Below.setCell ?_ (by first | omega | (simp; done) | (simp <;> omega)) _))) (hb.mono (by first | omega | (simp; done) | (simp <;> omega))))
  have z5_0 : w.heap.size < w5.heap.size := by omega
  have z5_1 : w.heap.size + 1 < w5.heap.size := by omega
  have z5_2 : w.heap.size + 1 + 1 < w5.heap.size := by omega
  clear hb
  replace F5 := Lib.hid (F5.mono (lo' := w4.heap.size) (by simp) (Nat.le_refl _))
  go_wp2_with fail
  refine Calls.mono (to_stored x.l6 x.A6 x.n6 x.c6 lo hi _ (by omega) (R6.out.new (by repeat (first | with_reducible exact Below.refl _ _ | (with_reducible exact HB.out) | (with_reducible refine Below.setCell ?_ (by first | omega | (simp; done) | (simp <;> omega)) _) | (with_reducible refine Below.alloc ?_ (by first | omega | (simp; done) | (simp <;> omega)) _) | (refine Below.alloc ?_ (by first | omega | (simp; done) | (simp <;> omega)) _) | (refine Below.setCell ?_ (by first | omega | (simp; done) | (simp <;> omega)) _))))) ?_
  rintro e w6 ⟨B6, d6, rfl, F6, hb⟩
  replace F1 := Lib.hid (show FrTab w6 (w.heap.size + 3) (w1.heap.size) B1 x.n1 d1 ys1 from FrTab.new (by repeat (first | with_reducible exact F1.out | (with_reducible refine FrTab.put ?_ (by first | omega | (simp; done) | (simp <;> omega)) _) | (with_reducible refine FrTab.alloc ?_ _))) hb)
  replace F2 := Lib.hid (show FrPackage w6 (w1.heap.size) (w2.heap.size) B2 x.n2 d2 ys2 from FrPackage.new (by repeat (first | with_reducible exact F2.out | (with_reducible refine FrPackage.put ?_ (by first | omega | (simp; done) | (simp <;> omega)) _) | (with_reducible refine FrPackage.alloc ?_ _))) hb)
  replace F3 := Lib.hid (show Fr w6 (w2.heap.size) (w3.heap.size) 108 7 B3 x.n3 d3 (cGrant x.l3) from Fr.new (by repeat (first | with_reducible exact F3.out | (with_reducible refine Fr.put ?_ (by first | omega | (simp; done) | (simp <;> omega)) _) | (with_reducible refine Fr.alloc ?_ _))) hb)
  replace F4 := Lib.hid (show Fr w6 (w3.heap.size) (w4.heap.size) 114 4 B4 x.n4 d4 (cLimit x.l4) from Fr.new (by repeat (first | with_reducible exact F4.out | (with_reducible refine Fr.put ?_ (by first | omega | (simp; done) | (simp <;> omega)) _) | (with_reducible refine Fr.alloc ?_ _))) hb)
  replace F5 := Lib.hid (show Fr w6 (w4.heap.size) (w5.heap.size) 119 8 B5 x.n5 d5 (cRule x.l5) from Fr.new (by repeat (first | with_reducible exact F5.out | (with_reducible refine Fr.put ?_ (by first | omega | (simp; done) | (simp <;> omega)) _) | (with_reducible refine Fr.alloc ?_ _))) hb)
  obtain ⟨hc6, hf6⟩ := bcell hb
  have hs6 := hb.size
  (try simp at hs6)
  replace HB := Lib.hid (show Below w.heap.size w w6 from Below.trans (by repeat (first | with_reducible exact Below.refl _ _ | (with_reducible exact HB.out) | (with_reducible refine Below.setCell ?_ (by first | omega | (simp; done) | (simp <;> omega)) _) | (with_reducible refine Below.alloc ?_ (by first | omega | (simp; done) | (simp <;> omega)) _) | (refine Below.alloc ?_ (by first | omega | (simp; done) | (simp <;> omega)) _) | (refine Below.setCell ?_ (by first | omega | (simp; done) | (simp <;> omega)) _))) (hb.mono (by first | omega | (simp; done) | (simp <;> omega))))
  have z6_0 : w.heap.size < w6.heap.size := by omega
  have z6_1 : w.heap.size + 1 < w6.heap.size := by omega
  have z6_2 : w.heap.size + 1 + 1 < w6.heap.size := by omega
  clear hb
  replace F6 := Lib.hid (F6.mono (lo' := w5.heap.size) (by simp) (Nat.le_refl _))
  go_wp2_with fail
  exact bodyPost_ret (v := .agg #[.int .i64 x.p0, .slice B1 x.n1 d1, .slice B2 x.n2 d2, .slice B3 x.n3 d3, .slice B4 x.n4 d4, .slice B5 x.n5 d5, .slice B6 x.n6 d6, .int .i64 x.p7]) (by simp [results, Tryz.results6, go_sem, hc1, z1_0, z1_1, z1_2, hc2, z2_0, z2_1, z2_2, hc3, z3_0, z3_1, z3_2, hc4, z4_0, z4_1, z4_2, hc5, z5_0, z5_1, z5_2, hc6, z6_0, z6_1, z6_2]) rfl
    ⟨⟨x.p0, B1, x.n1, d1, ys1, B2, x.n2, d2, ys2, B3, x.n3, d3, x.l3, B4, x.n4, d4, x.l4, B5, x.n5, d5, x.l5, B6, x.n6, d6, x.l6, x.p7⟩, rfl, by simp only [DBrowser.dat, E1.out, E2.out],
      ⟨w.heap.size + 3, w1.heap.size, w1.heap.size, w2.heap.size, w2.heap.size, w3.heap.size, w3.heap.size, w4.heap.size, w4.heap.size, w5.heap.size, w5.heap.size, w6.heap.size, (by repeat (first | with_reducible exact F1.out | (with_reducible refine FrTab.put ?_ (by first | omega | (simp; done) | (simp <;> omega)) _) | (with_reducible refine FrTab.alloc ?_ _))), (by repeat (first | with_reducible exact F2.out | (with_reducible refine FrPackage.put ?_ (by first | omega | (simp; done) | (simp <;> omega)) _) | (with_reducible refine FrPackage.alloc ?_ _))), ⟨by dsimp only; omega, (by repeat (first | with_reducible exact F3.out | (with_reducible refine Fr.put ?_ (by first | omega | (simp; done) | (simp <;> omega)) _) | (with_reducible refine Fr.alloc ?_ _)))⟩, ⟨by dsimp only; omega, (by repeat (first | with_reducible exact F4.out | (with_reducible refine Fr.put ?_ (by first | omega | (simp; done) | (simp <;> omega)) _) | (with_reducible refine Fr.alloc ?_ _)))⟩, ⟨by dsimp only; omega, (by repeat (first | with_reducible exact F5.out | (with_reducible refine Fr.put ?_ (by first | omega | (simp; done) | (simp <;> omega)) _) | (with_reducible refine Fr.alloc ?_ _)))⟩, ⟨by dsimp only; omega, (by repeat (first | with_reducible exact F6.out | (with_reducible refine Fr.put ?_ (by first | omega | (simp; done) | (simp <;> omega)) _) | (with_reducible refine Fr.alloc ?_ _)))⟩, by simp, by omega, Nat.le_refl _, by omega, Nat.le_refl _, by omega, Nat.le_refl _, by omega, Nat.le_refl _, by omega, Nat.le_refl _, by omega, by simp⟩, by repeat (first | with_reducible exact Below.refl _ _ | (with_reducible exact HB.out) | (with_reducible refine Below.setCell ?_ (by first | omega | (simp; done) | (simp <;> omega)) _) | (with_reducible refine Below.alloc ?_ (by first | omega | (simp; done) | (simp <;> omega)) _) | (refine Below.alloc ?_ (by first | omega | (simp; done) | (simp <;> omega)) _) | (refine Below.setCell ?_ (by first | omega | (simp; done) | (simp <;> omega)) _))⟩

theorem sz_browser (x : DBrowser) (lo hi : Nat) (left : Int) (w : World) (hr : x.rd w lo hi) (h : (((x.dat.sz : Nat) : Int) ≤ left)) (hl : left ≤ 1048576) :
    Calls Tryz.prog 4 #[.agg #[.int .i64 x.p0, .slice x.A1 x.n1 x.c1, .slice x.A2 x.n2 x.c2, .slice x.A3 x.n3 x.c3, .slice x.A4 x.n4 x.c4, .slice x.A5 x.n5 x.c5, .slice x.A6 x.n6 x.c6, .int .i64 x.p7], .int .i64 left] w (Says (.int .i64 (left - ((x.dat.sz : Nat) : Int))) w) := by
  rw [hr.sz] at h ⊢
  obtain ⟨h1, h2, h3, h4, h5, h6⟩ := hr
  have R1 := Lib.hid h1
  clear h1
  have R2 := Lib.hid h2
  clear h2
  have m3 := h3.1
  clear h3
  have m4 := h4.1
  clear h4
  have m5 := h5.1
  clear h5
  have m6 := h6.1
  clear h6
  have p1 : 0 ≤ ((x.n1 + MTab.szs (x.l1.map DTab.dat) : Nat) : Int) := by omega
  have p2 : 0 ≤ ((x.n2 + MPackage.szs (x.l2.map DPackage.dat) : Nat) : Int) := by omega
  have p3 : 0 ≤ (x.n3 : Int) := by omega
  have p4 : 0 ≤ (x.n4 : Int) := by omega
  have p5 : 0 ≤ (x.n5 : Int) := by omega
  have p6 : 0 ≤ (x.n6 : Int) := by omega
  have HT : (((x.n1 + MTab.szs (x.l1.map DTab.dat)) + (x.n2 + MPackage.szs (x.l2.map DPackage.dat)) + x.n3 + x.n4 + x.n5 + x.n6 : Nat) : Int) = ((x.n1 + MTab.szs (x.l1.map DTab.dat) : Nat) : Int) + ((x.n2 + MPackage.szs (x.l2.map DPackage.dat) : Nat) : Int) + (x.n3 : Int) + (x.n4 : Int) + (x.n5 : Int) + (x.n6 : Int) := by push_cast; omega
  rw [HT] at h ⊢
  clear HT
  have HB := Lib.hid (Below.refl w.heap.size w)
  have g0 : decide (left - ((x.n1 + MTab.szs (x.l1.map DTab.dat) : Nat) : Int) < 0) = false := by simp; omega
  have g1 : decide (left - ((x.n1 + MTab.szs (x.l1.map DTab.dat) : Nat) : Int) - ((x.n2 + MPackage.szs (x.l2.map DPackage.dat) : Nat) : Int) < 0) = false := by simp; omega
  have g2 : decide (left - ((x.n1 + MTab.szs (x.l1.map DTab.dat) : Nat) : Int) - ((x.n2 + MPackage.szs (x.l2.map DPackage.dat) : Nat) : Int) - (x.n3 : Int) < 0) = false := by simp; omega
  have g3 : decide (left - ((x.n1 + MTab.szs (x.l1.map DTab.dat) : Nat) : Int) - ((x.n2 + MPackage.szs (x.l2.map DPackage.dat) : Nat) : Int) - (x.n3 : Int) - (x.n4 : Int) < 0) = false := by simp; omega
  have g4 : decide (left - ((x.n1 + MTab.szs (x.l1.map DTab.dat) : Nat) : Int) - ((x.n2 + MPackage.szs (x.l2.map DPackage.dat) : Nat) : Int) - (x.n3 : Int) - (x.n4 : Int) - (x.n5 : Int) < 0) = false := by simp; omega
  have g5 : decide (left - ((x.n1 + MTab.szs (x.l1.map DTab.dat) : Nat) : Int) - ((x.n2 + MPackage.szs (x.l2.map DPackage.dat) : Nat) : Int) - (x.n3 : Int) - (x.n4 : Int) - (x.n5 : Int) - (x.n6 : Int) < 0) = false := by simp; omega
  go_enter Tryz.func4, Tryz.ntmps4
  go_wp2_with fail
  refine Calls.mono (sz_tabs x.l1 x.A1 x.n1 x.c1 lo hi (left) _ (R1.out.new (by repeat (first | with_reducible exact Below.refl _ _ | (with_reducible exact HB.out) | (with_reducible refine Below.setCell ?_ (by first | omega | (simp; done) | (simp <;> omega)) _) | (with_reducible refine Below.alloc ?_ (by first | omega | (simp; done) | (simp <;> omega)) _) | (refine Below.alloc ?_ (by first | omega | (simp; done) | (simp <;> omega)) _) | (refine Below.setCell ?_ (by first | omega | (simp; done) | (simp <;> omega)) _)))) (by omega) (by omega)) ?_
  rintro e w1 hq
  obtain ⟨rfl, hb⟩ := hq
  obtain ⟨hc1, hf1⟩ := bcell hb
  have hs1 := hb.size
  (try simp at hs1)
  replace HB := Lib.hid (show Below w.heap.size w w1 from Below.trans (by repeat (first | with_reducible exact Below.refl _ _ | (with_reducible exact HB.out) | (with_reducible refine Below.setCell ?_ (by first | omega | (simp; done) | (simp <;> omega)) _) | (with_reducible refine Below.alloc ?_ (by first | omega | (simp; done) | (simp <;> omega)) _) | (refine Below.alloc ?_ (by first | omega | (simp; done) | (simp <;> omega)) _) | (refine Below.setCell ?_ (by first | omega | (simp; done) | (simp <;> omega)) _))) (hb.mono (by first | omega | (simp; done) | (simp <;> omega))))
  have z1_0 : w.heap.size < w1.heap.size := by omega
  clear hb
  go_wp2_with fail
  refine Calls.mono (sz_packages x.l2 x.A2 x.n2 x.c2 lo hi (left - ((x.n1 + MTab.szs (x.l1.map DTab.dat) : Nat) : Int)) _ (R2.out.new (by repeat (first | with_reducible exact Below.refl _ _ | (with_reducible exact HB.out) | (with_reducible refine Below.setCell ?_ (by first | omega | (simp; done) | (simp <;> omega)) _) | (with_reducible refine Below.alloc ?_ (by first | omega | (simp; done) | (simp <;> omega)) _) | (refine Below.alloc ?_ (by first | omega | (simp; done) | (simp <;> omega)) _) | (refine Below.setCell ?_ (by first | omega | (simp; done) | (simp <;> omega)) _)))) (by omega) (by omega)) ?_
  rintro e w2 hq
  obtain ⟨rfl, hb⟩ := hq
  obtain ⟨hc2, hf2⟩ := bcell hb
  have hs2 := hb.size
  (try simp at hs2)
  replace HB := Lib.hid (show Below w.heap.size w w2 from Below.trans (by repeat (first | with_reducible exact Below.refl _ _ | (with_reducible exact HB.out) | (with_reducible refine Below.setCell ?_ (by first | omega | (simp; done) | (simp <;> omega)) _) | (with_reducible refine Below.alloc ?_ (by first | omega | (simp; done) | (simp <;> omega)) _) | (refine Below.alloc ?_ (by first | omega | (simp; done) | (simp <;> omega)) _) | (refine Below.setCell ?_ (by first | omega | (simp; done) | (simp <;> omega)) _))) (hb.mono (by first | omega | (simp; done) | (simp <;> omega))))
  have z2_0 : w.heap.size < w2.heap.size := by omega
  clear hb
  go_wp2_with fail
  refine Calls.mono (sz_grant x.A3 x.n3 x.c3 (left - ((x.n1 + MTab.szs (x.l1.map DTab.dat) : Nat) : Int) - ((x.n2 + MPackage.szs (x.l2.map DPackage.dat) : Nat) : Int)) _ m3 (by omega) (by omega)) ?_
  rintro e w3 hq
  obtain ⟨rfl, hb⟩ := hq.says
  obtain ⟨hc3, hf3⟩ := bcell hb
  have hs3 := hb.size
  (try simp at hs3)
  replace HB := Lib.hid (show Below w.heap.size w w3 from Below.trans (by repeat (first | with_reducible exact Below.refl _ _ | (with_reducible exact HB.out) | (with_reducible refine Below.setCell ?_ (by first | omega | (simp; done) | (simp <;> omega)) _) | (with_reducible refine Below.alloc ?_ (by first | omega | (simp; done) | (simp <;> omega)) _) | (refine Below.alloc ?_ (by first | omega | (simp; done) | (simp <;> omega)) _) | (refine Below.setCell ?_ (by first | omega | (simp; done) | (simp <;> omega)) _))) (hb.mono (by first | omega | (simp; done) | (simp <;> omega))))
  have z3_0 : w.heap.size < w3.heap.size := by omega
  clear hb
  go_wp2_with fail
  refine Calls.mono (sz_limit x.A4 x.n4 x.c4 (left - ((x.n1 + MTab.szs (x.l1.map DTab.dat) : Nat) : Int) - ((x.n2 + MPackage.szs (x.l2.map DPackage.dat) : Nat) : Int) - (x.n3 : Int)) _ m4 (by omega) (by omega)) ?_
  rintro e w4 hq
  obtain ⟨rfl, hb⟩ := hq.says
  obtain ⟨hc4, hf4⟩ := bcell hb
  have hs4 := hb.size
  (try simp at hs4)
  replace HB := Lib.hid (show Below w.heap.size w w4 from Below.trans (by repeat (first | with_reducible exact Below.refl _ _ | (with_reducible exact HB.out) | (with_reducible refine Below.setCell ?_ (by first | omega | (simp; done) | (simp <;> omega)) _) | (with_reducible refine Below.alloc ?_ (by first | omega | (simp; done) | (simp <;> omega)) _) | (refine Below.alloc ?_ (by first | omega | (simp; done) | (simp <;> omega)) _) | (refine Below.setCell ?_ (by first | omega | (simp; done) | (simp <;> omega)) _))) (hb.mono (by first | omega | (simp; done) | (simp <;> omega))))
  have z4_0 : w.heap.size < w4.heap.size := by omega
  clear hb
  go_wp2_with fail
  refine Calls.mono (sz_rule x.A5 x.n5 x.c5 (left - ((x.n1 + MTab.szs (x.l1.map DTab.dat) : Nat) : Int) - ((x.n2 + MPackage.szs (x.l2.map DPackage.dat) : Nat) : Int) - (x.n3 : Int) - (x.n4 : Int)) _ m5 (by omega) (by omega)) ?_
  rintro e w5 hq
  obtain ⟨rfl, hb⟩ := hq.says
  obtain ⟨hc5, hf5⟩ := bcell hb
  have hs5 := hb.size
  (try simp at hs5)
  replace HB := Lib.hid (show Below w.heap.size w w5 from Below.trans (by repeat (first | with_reducible exact Below.refl _ _ | (with_reducible exact HB.out) | (with_reducible refine Below.setCell ?_ (by first | omega | (simp; done) | (simp <;> omega)) _) | (with_reducible refine Below.alloc ?_ (by first | omega | (simp; done) | (simp <;> omega)) _) | (refine Below.alloc ?_ (by first | omega | (simp; done) | (simp <;> omega)) _) | (refine Below.setCell ?_ (by first | omega | (simp; done) | (simp <;> omega)) _))) (hb.mono (by first | omega | (simp; done) | (simp <;> omega))))
  have z5_0 : w.heap.size < w5.heap.size := by omega
  clear hb
  go_wp2_with fail
  refine Calls.mono (sz_stored x.A6 x.n6 x.c6 (left - ((x.n1 + MTab.szs (x.l1.map DTab.dat) : Nat) : Int) - ((x.n2 + MPackage.szs (x.l2.map DPackage.dat) : Nat) : Int) - (x.n3 : Int) - (x.n4 : Int) - (x.n5 : Int)) _ m6 (by omega) (by omega)) ?_
  rintro e w6 hq
  obtain ⟨rfl, hb⟩ := hq.says
  obtain ⟨hc6, hf6⟩ := bcell hb
  have hs6 := hb.size
  (try simp at hs6)
  replace HB := Lib.hid (show Below w.heap.size w w6 from Below.trans (by repeat (first | with_reducible exact Below.refl _ _ | (with_reducible exact HB.out) | (with_reducible refine Below.setCell ?_ (by first | omega | (simp; done) | (simp <;> omega)) _) | (with_reducible refine Below.alloc ?_ (by first | omega | (simp; done) | (simp <;> omega)) _) | (refine Below.alloc ?_ (by first | omega | (simp; done) | (simp <;> omega)) _) | (refine Below.setCell ?_ (by first | omega | (simp; done) | (simp <;> omega)) _))) (hb.mono (by first | omega | (simp; done) | (simp <;> omega))))
  have z6_0 : w.heap.size < w6.heap.size := by omega
  clear hb
  go_wp2_with fail
  go_ret
  exact ⟨congrArg (fun z : Int => Ending.returned (Value.int .i64 z)) (by omega), by repeat (first | with_reducible exact Below.refl _ _ | (with_reducible exact HB.out) | (with_reducible refine Below.setCell ?_ (by first | omega | (simp; done) | (simp <;> omega)) _) | (with_reducible refine Below.alloc ?_ (by first | omega | (simp; done) | (simp <;> omega)) _) | (refine Below.alloc ?_ (by first | omega | (simp; done) | (simp <;> omega)) _) | (refine Below.setCell ?_ (by first | omega | (simp; done) | (simp <;> omega)) _))⟩

theorem szno_browser (x : DBrowser) (lo hi : Nat) (left : Int) (w : World) (hr : x.rd w lo hi) (h : ¬ (((x.dat.sz : Nat) : Int) ≤ left)) (hl : left ≤ 1048576) (hl0 : 0 ≤ left) :
    Calls Tryz.prog 4 #[.agg #[.int .i64 x.p0, .slice x.A1 x.n1 x.c1, .slice x.A2 x.n2 x.c2, .slice x.A3 x.n3 x.c3, .slice x.A4 x.n4 x.c4, .slice x.A5 x.n5 x.c5, .slice x.A6 x.n6 x.c6, .int .i64 x.p7], .int .i64 left] w (Says (.int .i64 (-1)) w) := by
  rw [hr.sz] at h
  obtain ⟨h1, h2, h3, h4, h5, h6⟩ := hr
  have R1 := Lib.hid h1
  clear h1
  have R2 := Lib.hid h2
  clear h2
  have m3 := h3.1
  clear h3
  have m4 := h4.1
  clear h4
  have m5 := h5.1
  clear h5
  have m6 := h6.1
  clear h6
  have p1 : 0 ≤ ((x.n1 + MTab.szs (x.l1.map DTab.dat) : Nat) : Int) := by omega
  have p2 : 0 ≤ ((x.n2 + MPackage.szs (x.l2.map DPackage.dat) : Nat) : Int) := by omega
  have p3 : 0 ≤ (x.n3 : Int) := by omega
  have p4 : 0 ≤ (x.n4 : Int) := by omega
  have p5 : 0 ≤ (x.n5 : Int) := by omega
  have p6 : 0 ≤ (x.n6 : Int) := by omega
  have HT : (((x.n1 + MTab.szs (x.l1.map DTab.dat)) + (x.n2 + MPackage.szs (x.l2.map DPackage.dat)) + x.n3 + x.n4 + x.n5 + x.n6 : Nat) : Int) = ((x.n1 + MTab.szs (x.l1.map DTab.dat) : Nat) : Int) + ((x.n2 + MPackage.szs (x.l2.map DPackage.dat) : Nat) : Int) + (x.n3 : Int) + (x.n4 : Int) + (x.n5 : Int) + (x.n6 : Int) := by push_cast; omega
  rw [HT] at h
  clear HT
  have HB := Lib.hid (Below.refl w.heap.size w)
  by_cases u0 : left < ((x.n1 + MTab.szs (x.l1.map DTab.dat) : Nat) : Int)
  · skip
    go_enter Tryz.func4, Tryz.ntmps4
    go_wp2_with fail
    refine Calls.mono (szno_tabs x.l1 x.A1 x.n1 x.c1 lo hi (left) _ (R1.out.new (by repeat (first | with_reducible exact Below.refl _ _ | (with_reducible exact HB.out) | (with_reducible refine Below.setCell ?_ (by first | omega | (simp; done) | (simp <;> omega)) _) | (with_reducible refine Below.alloc ?_ (by first | omega | (simp; done) | (simp <;> omega)) _) | (refine Below.alloc ?_ (by first | omega | (simp; done) | (simp <;> omega)) _) | (refine Below.setCell ?_ (by first | omega | (simp; done) | (simp <;> omega)) _)))) (by omega) (by omega) (by omega)) ?_
    rintro e w1 hq
    obtain ⟨rfl, hb⟩ := hq
    obtain ⟨hc1, hf1⟩ := bcell hb
    have hs1 := hb.size
    (try simp at hs1)
    replace HB := Lib.hid (show Below w.heap.size w w1 from Below.trans (by repeat (first | with_reducible exact Below.refl _ _ | (with_reducible exact HB.out) | (with_reducible refine Below.setCell ?_ (by first | omega | (simp; done) | (simp <;> omega)) _) | (with_reducible refine Below.alloc ?_ (by first | omega | (simp; done) | (simp <;> omega)) _) | (refine Below.alloc ?_ (by first | omega | (simp; done) | (simp <;> omega)) _) | (refine Below.setCell ?_ (by first | omega | (simp; done) | (simp <;> omega)) _))) (hb.mono (by first | omega | (simp; done) | (simp <;> omega))))
    have z1_0 : w.heap.size < w1.heap.size := by omega
    clear hb
    go_wp2_with fail
    go_ret
    exact ⟨rfl, by repeat (first | with_reducible exact Below.refl _ _ | (with_reducible exact HB.out) | (with_reducible refine Below.setCell ?_ (by first | omega | (simp; done) | (simp <;> omega)) _) | (with_reducible refine Below.alloc ?_ (by first | omega | (simp; done) | (simp <;> omega)) _) | (refine Below.alloc ?_ (by first | omega | (simp; done) | (simp <;> omega)) _) | (refine Below.setCell ?_ (by first | omega | (simp; done) | (simp <;> omega)) _))⟩
  by_cases u1 : left < ((x.n1 + MTab.szs (x.l1.map DTab.dat) : Nat) : Int) + ((x.n2 + MPackage.szs (x.l2.map DPackage.dat) : Nat) : Int)
  · skip
    have g0 : decide (left - ((x.n1 + MTab.szs (x.l1.map DTab.dat) : Nat) : Int) < 0) = false := by simp; omega
    go_enter Tryz.func4, Tryz.ntmps4
    go_wp2_with fail
    refine Calls.mono (sz_tabs x.l1 x.A1 x.n1 x.c1 lo hi (left) _ (R1.out.new (by repeat (first | with_reducible exact Below.refl _ _ | (with_reducible exact HB.out) | (with_reducible refine Below.setCell ?_ (by first | omega | (simp; done) | (simp <;> omega)) _) | (with_reducible refine Below.alloc ?_ (by first | omega | (simp; done) | (simp <;> omega)) _) | (refine Below.alloc ?_ (by first | omega | (simp; done) | (simp <;> omega)) _) | (refine Below.setCell ?_ (by first | omega | (simp; done) | (simp <;> omega)) _)))) (by omega) (by omega)) ?_
    rintro e w1 hq
    obtain ⟨rfl, hb⟩ := hq
    obtain ⟨hc1, hf1⟩ := bcell hb
    have hs1 := hb.size
    (try simp at hs1)
    replace HB := Lib.hid (show Below w.heap.size w w1 from Below.trans (by repeat (first | with_reducible exact Below.refl _ _ | (with_reducible exact HB.out) | (with_reducible refine Below.setCell ?_ (by first | omega | (simp; done) | (simp <;> omega)) _) | (with_reducible refine Below.alloc ?_ (by first | omega | (simp; done) | (simp <;> omega)) _) | (refine Below.alloc ?_ (by first | omega | (simp; done) | (simp <;> omega)) _) | (refine Below.setCell ?_ (by first | omega | (simp; done) | (simp <;> omega)) _))) (hb.mono (by first | omega | (simp; done) | (simp <;> omega))))
    have z1_0 : w.heap.size < w1.heap.size := by omega
    clear hb
    go_wp2_with fail
    refine Calls.mono (szno_packages x.l2 x.A2 x.n2 x.c2 lo hi (left - ((x.n1 + MTab.szs (x.l1.map DTab.dat) : Nat) : Int)) _ (R2.out.new (by repeat (first | with_reducible exact Below.refl _ _ | (with_reducible exact HB.out) | (with_reducible refine Below.setCell ?_ (by first | omega | (simp; done) | (simp <;> omega)) _) | (with_reducible refine Below.alloc ?_ (by first | omega | (simp; done) | (simp <;> omega)) _) | (refine Below.alloc ?_ (by first | omega | (simp; done) | (simp <;> omega)) _) | (refine Below.setCell ?_ (by first | omega | (simp; done) | (simp <;> omega)) _)))) (by omega) (by omega) (by omega)) ?_
    rintro e w2 hq
    obtain ⟨rfl, hb⟩ := hq
    obtain ⟨hc2, hf2⟩ := bcell hb
    have hs2 := hb.size
    (try simp at hs2)
    replace HB := Lib.hid (show Below w.heap.size w w2 from Below.trans (by repeat (first | with_reducible exact Below.refl _ _ | (with_reducible exact HB.out) | (with_reducible refine Below.setCell ?_ (by first | omega | (simp; done) | (simp <;> omega)) _) | (with_reducible refine Below.alloc ?_ (by first | omega | (simp; done) | (simp <;> omega)) _) | (refine Below.alloc ?_ (by first | omega | (simp; done) | (simp <;> omega)) _) | (refine Below.setCell ?_ (by first | omega | (simp; done) | (simp <;> omega)) _))) (hb.mono (by first | omega | (simp; done) | (simp <;> omega))))
    have z2_0 : w.heap.size < w2.heap.size := by omega
    clear hb
    go_wp2_with fail
    go_ret
    exact ⟨rfl, by repeat (first | with_reducible exact Below.refl _ _ | (with_reducible exact HB.out) | (with_reducible refine Below.setCell ?_ (by first | omega | (simp; done) | (simp <;> omega)) _) | (with_reducible refine Below.alloc ?_ (by first | omega | (simp; done) | (simp <;> omega)) _) | (refine Below.alloc ?_ (by first | omega | (simp; done) | (simp <;> omega)) _) | (refine Below.setCell ?_ (by first | omega | (simp; done) | (simp <;> omega)) _))⟩
  by_cases u2 : left < ((x.n1 + MTab.szs (x.l1.map DTab.dat) : Nat) : Int) + ((x.n2 + MPackage.szs (x.l2.map DPackage.dat) : Nat) : Int) + (x.n3 : Int)
  · skip
    have g0 : decide (left - ((x.n1 + MTab.szs (x.l1.map DTab.dat) : Nat) : Int) < 0) = false := by simp; omega
    have g1 : decide (left - ((x.n1 + MTab.szs (x.l1.map DTab.dat) : Nat) : Int) - ((x.n2 + MPackage.szs (x.l2.map DPackage.dat) : Nat) : Int) < 0) = false := by simp; omega
    go_enter Tryz.func4, Tryz.ntmps4
    go_wp2_with fail
    refine Calls.mono (sz_tabs x.l1 x.A1 x.n1 x.c1 lo hi (left) _ (R1.out.new (by repeat (first | with_reducible exact Below.refl _ _ | (with_reducible exact HB.out) | (with_reducible refine Below.setCell ?_ (by first | omega | (simp; done) | (simp <;> omega)) _) | (with_reducible refine Below.alloc ?_ (by first | omega | (simp; done) | (simp <;> omega)) _) | (refine Below.alloc ?_ (by first | omega | (simp; done) | (simp <;> omega)) _) | (refine Below.setCell ?_ (by first | omega | (simp; done) | (simp <;> omega)) _)))) (by omega) (by omega)) ?_
    rintro e w1 hq
    obtain ⟨rfl, hb⟩ := hq
    obtain ⟨hc1, hf1⟩ := bcell hb
    have hs1 := hb.size
    (try simp at hs1)
    replace HB := Lib.hid (show Below w.heap.size w w1 from Below.trans (by repeat (first | with_reducible exact Below.refl _ _ | (with_reducible exact HB.out) | (with_reducible refine Below.setCell ?_ (by first | omega | (simp; done) | (simp <;> omega)) _) | (with_reducible refine Below.alloc ?_ (by first | omega | (simp; done) | (simp <;> omega)) _) | (refine Below.alloc ?_ (by first | omega | (simp; done) | (simp <;> omega)) _) | (refine Below.setCell ?_ (by first | omega | (simp; done) | (simp <;> omega)) _))) (hb.mono (by first | omega | (simp; done) | (simp <;> omega))))
    have z1_0 : w.heap.size < w1.heap.size := by omega
    clear hb
    go_wp2_with fail
    refine Calls.mono (sz_packages x.l2 x.A2 x.n2 x.c2 lo hi (left - ((x.n1 + MTab.szs (x.l1.map DTab.dat) : Nat) : Int)) _ (R2.out.new (by repeat (first | with_reducible exact Below.refl _ _ | (with_reducible exact HB.out) | (with_reducible refine Below.setCell ?_ (by first | omega | (simp; done) | (simp <;> omega)) _) | (with_reducible refine Below.alloc ?_ (by first | omega | (simp; done) | (simp <;> omega)) _) | (refine Below.alloc ?_ (by first | omega | (simp; done) | (simp <;> omega)) _) | (refine Below.setCell ?_ (by first | omega | (simp; done) | (simp <;> omega)) _)))) (by omega) (by omega)) ?_
    rintro e w2 hq
    obtain ⟨rfl, hb⟩ := hq
    obtain ⟨hc2, hf2⟩ := bcell hb
    have hs2 := hb.size
    (try simp at hs2)
    replace HB := Lib.hid (show Below w.heap.size w w2 from Below.trans (by repeat (first | with_reducible exact Below.refl _ _ | (with_reducible exact HB.out) | (with_reducible refine Below.setCell ?_ (by first | omega | (simp; done) | (simp <;> omega)) _) | (with_reducible refine Below.alloc ?_ (by first | omega | (simp; done) | (simp <;> omega)) _) | (refine Below.alloc ?_ (by first | omega | (simp; done) | (simp <;> omega)) _) | (refine Below.setCell ?_ (by first | omega | (simp; done) | (simp <;> omega)) _))) (hb.mono (by first | omega | (simp; done) | (simp <;> omega))))
    have z2_0 : w.heap.size < w2.heap.size := by omega
    clear hb
    go_wp2_with fail
    refine Calls.mono (szno_grant x.A3 x.n3 x.c3 (left - ((x.n1 + MTab.szs (x.l1.map DTab.dat) : Nat) : Int) - ((x.n2 + MPackage.szs (x.l2.map DPackage.dat) : Nat) : Int)) _ m3 (by omega) (by omega) (by omega)) ?_
    rintro e w3 hq
    obtain ⟨rfl, hb⟩ := hq.says
    obtain ⟨hc3, hf3⟩ := bcell hb
    have hs3 := hb.size
    (try simp at hs3)
    replace HB := Lib.hid (show Below w.heap.size w w3 from Below.trans (by repeat (first | with_reducible exact Below.refl _ _ | (with_reducible exact HB.out) | (with_reducible refine Below.setCell ?_ (by first | omega | (simp; done) | (simp <;> omega)) _) | (with_reducible refine Below.alloc ?_ (by first | omega | (simp; done) | (simp <;> omega)) _) | (refine Below.alloc ?_ (by first | omega | (simp; done) | (simp <;> omega)) _) | (refine Below.setCell ?_ (by first | omega | (simp; done) | (simp <;> omega)) _))) (hb.mono (by first | omega | (simp; done) | (simp <;> omega))))
    have z3_0 : w.heap.size < w3.heap.size := by omega
    clear hb
    go_wp2_with fail
    go_ret
    exact ⟨rfl, by repeat (first | with_reducible exact Below.refl _ _ | (with_reducible exact HB.out) | (with_reducible refine Below.setCell ?_ (by first | omega | (simp; done) | (simp <;> omega)) _) | (with_reducible refine Below.alloc ?_ (by first | omega | (simp; done) | (simp <;> omega)) _) | (refine Below.alloc ?_ (by first | omega | (simp; done) | (simp <;> omega)) _) | (refine Below.setCell ?_ (by first | omega | (simp; done) | (simp <;> omega)) _))⟩
  by_cases u3 : left < ((x.n1 + MTab.szs (x.l1.map DTab.dat) : Nat) : Int) + ((x.n2 + MPackage.szs (x.l2.map DPackage.dat) : Nat) : Int) + (x.n3 : Int) + (x.n4 : Int)
  · skip
    have g0 : decide (left - ((x.n1 + MTab.szs (x.l1.map DTab.dat) : Nat) : Int) < 0) = false := by simp; omega
    have g1 : decide (left - ((x.n1 + MTab.szs (x.l1.map DTab.dat) : Nat) : Int) - ((x.n2 + MPackage.szs (x.l2.map DPackage.dat) : Nat) : Int) < 0) = false := by simp; omega
    have g2 : decide (left - ((x.n1 + MTab.szs (x.l1.map DTab.dat) : Nat) : Int) - ((x.n2 + MPackage.szs (x.l2.map DPackage.dat) : Nat) : Int) - (x.n3 : Int) < 0) = false := by simp; omega
    go_enter Tryz.func4, Tryz.ntmps4
    go_wp2_with fail
    refine Calls.mono (sz_tabs x.l1 x.A1 x.n1 x.c1 lo hi (left) _ (R1.out.new (by repeat (first | with_reducible exact Below.refl _ _ | (with_reducible exact HB.out) | (with_reducible refine Below.setCell ?_ (by first | omega | (simp; done) | (simp <;> omega)) _) | (with_reducible refine Below.alloc ?_ (by first | omega | (simp; done) | (simp <;> omega)) _) | (refine Below.alloc ?_ (by first | omega | (simp; done) | (simp <;> omega)) _) | (refine Below.setCell ?_ (by first | omega | (simp; done) | (simp <;> omega)) _)))) (by omega) (by omega)) ?_
    rintro e w1 hq
    obtain ⟨rfl, hb⟩ := hq
    obtain ⟨hc1, hf1⟩ := bcell hb
    have hs1 := hb.size
    (try simp at hs1)
    replace HB := Lib.hid (show Below w.heap.size w w1 from Below.trans (by repeat (first | with_reducible exact Below.refl _ _ | (with_reducible exact HB.out) | (with_reducible refine Below.setCell ?_ (by first | omega | (simp; done) | (simp <;> omega)) _) | (with_reducible refine Below.alloc ?_ (by first | omega | (simp; done) | (simp <;> omega)) _) | (refine Below.alloc ?_ (by first | omega | (simp; done) | (simp <;> omega)) _) | (refine Below.setCell ?_ (by first | omega | (simp; done) | (simp <;> omega)) _))) (hb.mono (by first | omega | (simp; done) | (simp <;> omega))))
    have z1_0 : w.heap.size < w1.heap.size := by omega
    clear hb
    go_wp2_with fail
    refine Calls.mono (sz_packages x.l2 x.A2 x.n2 x.c2 lo hi (left - ((x.n1 + MTab.szs (x.l1.map DTab.dat) : Nat) : Int)) _ (R2.out.new (by repeat (first | with_reducible exact Below.refl _ _ | (with_reducible exact HB.out) | (with_reducible refine Below.setCell ?_ (by first | omega | (simp; done) | (simp <;> omega)) _) | (with_reducible refine Below.alloc ?_ (by first | omega | (simp; done) | (simp <;> omega)) _) | (refine Below.alloc ?_ (by first | omega | (simp; done) | (simp <;> omega)) _) | (refine Below.setCell ?_ (by first | omega | (simp; done) | (simp <;> omega)) _)))) (by omega) (by omega)) ?_
    rintro e w2 hq
    obtain ⟨rfl, hb⟩ := hq
    obtain ⟨hc2, hf2⟩ := bcell hb
    have hs2 := hb.size
    (try simp at hs2)
    replace HB := Lib.hid (show Below w.heap.size w w2 from Below.trans (by repeat (first | with_reducible exact Below.refl _ _ | (with_reducible exact HB.out) | (with_reducible refine Below.setCell ?_ (by first | omega | (simp; done) | (simp <;> omega)) _) | (with_reducible refine Below.alloc ?_ (by first | omega | (simp; done) | (simp <;> omega)) _) | (refine Below.alloc ?_ (by first | omega | (simp; done) | (simp <;> omega)) _) | (refine Below.setCell ?_ (by first | omega | (simp; done) | (simp <;> omega)) _))) (hb.mono (by first | omega | (simp; done) | (simp <;> omega))))
    have z2_0 : w.heap.size < w2.heap.size := by omega
    clear hb
    go_wp2_with fail
    refine Calls.mono (sz_grant x.A3 x.n3 x.c3 (left - ((x.n1 + MTab.szs (x.l1.map DTab.dat) : Nat) : Int) - ((x.n2 + MPackage.szs (x.l2.map DPackage.dat) : Nat) : Int)) _ m3 (by omega) (by omega)) ?_
    rintro e w3 hq
    obtain ⟨rfl, hb⟩ := hq.says
    obtain ⟨hc3, hf3⟩ := bcell hb
    have hs3 := hb.size
    (try simp at hs3)
    replace HB := Lib.hid (show Below w.heap.size w w3 from Below.trans (by repeat (first | with_reducible exact Below.refl _ _ | (with_reducible exact HB.out) | (with_reducible refine Below.setCell ?_ (by first | omega | (simp; done) | (simp <;> omega)) _) | (with_reducible refine Below.alloc ?_ (by first | omega | (simp; done) | (simp <;> omega)) _) | (refine Below.alloc ?_ (by first | omega | (simp; done) | (simp <;> omega)) _) | (refine Below.setCell ?_ (by first | omega | (simp; done) | (simp <;> omega)) _))) (hb.mono (by first | omega | (simp; done) | (simp <;> omega))))
    have z3_0 : w.heap.size < w3.heap.size := by omega
    clear hb
    go_wp2_with fail
    refine Calls.mono (szno_limit x.A4 x.n4 x.c4 (left - ((x.n1 + MTab.szs (x.l1.map DTab.dat) : Nat) : Int) - ((x.n2 + MPackage.szs (x.l2.map DPackage.dat) : Nat) : Int) - (x.n3 : Int)) _ m4 (by omega) (by omega) (by omega)) ?_
    rintro e w4 hq
    obtain ⟨rfl, hb⟩ := hq.says
    obtain ⟨hc4, hf4⟩ := bcell hb
    have hs4 := hb.size
    (try simp at hs4)
    replace HB := Lib.hid (show Below w.heap.size w w4 from Below.trans (by repeat (first | with_reducible exact Below.refl _ _ | (with_reducible exact HB.out) | (with_reducible refine Below.setCell ?_ (by first | omega | (simp; done) | (simp <;> omega)) _) | (with_reducible refine Below.alloc ?_ (by first | omega | (simp; done) | (simp <;> omega)) _) | (refine Below.alloc ?_ (by first | omega | (simp; done) | (simp <;> omega)) _) | (refine Below.setCell ?_ (by first | omega | (simp; done) | (simp <;> omega)) _))) (hb.mono (by first | omega | (simp; done) | (simp <;> omega))))
    have z4_0 : w.heap.size < w4.heap.size := by omega
    clear hb
    go_wp2_with fail
    go_ret
    exact ⟨rfl, by repeat (first | with_reducible exact Below.refl _ _ | (with_reducible exact HB.out) | (with_reducible refine Below.setCell ?_ (by first | omega | (simp; done) | (simp <;> omega)) _) | (with_reducible refine Below.alloc ?_ (by first | omega | (simp; done) | (simp <;> omega)) _) | (refine Below.alloc ?_ (by first | omega | (simp; done) | (simp <;> omega)) _) | (refine Below.setCell ?_ (by first | omega | (simp; done) | (simp <;> omega)) _))⟩
  by_cases u4 : left < ((x.n1 + MTab.szs (x.l1.map DTab.dat) : Nat) : Int) + ((x.n2 + MPackage.szs (x.l2.map DPackage.dat) : Nat) : Int) + (x.n3 : Int) + (x.n4 : Int) + (x.n5 : Int)
  · skip
    have g0 : decide (left - ((x.n1 + MTab.szs (x.l1.map DTab.dat) : Nat) : Int) < 0) = false := by simp; omega
    have g1 : decide (left - ((x.n1 + MTab.szs (x.l1.map DTab.dat) : Nat) : Int) - ((x.n2 + MPackage.szs (x.l2.map DPackage.dat) : Nat) : Int) < 0) = false := by simp; omega
    have g2 : decide (left - ((x.n1 + MTab.szs (x.l1.map DTab.dat) : Nat) : Int) - ((x.n2 + MPackage.szs (x.l2.map DPackage.dat) : Nat) : Int) - (x.n3 : Int) < 0) = false := by simp; omega
    have g3 : decide (left - ((x.n1 + MTab.szs (x.l1.map DTab.dat) : Nat) : Int) - ((x.n2 + MPackage.szs (x.l2.map DPackage.dat) : Nat) : Int) - (x.n3 : Int) - (x.n4 : Int) < 0) = false := by simp; omega
    go_enter Tryz.func4, Tryz.ntmps4
    go_wp2_with fail
    refine Calls.mono (sz_tabs x.l1 x.A1 x.n1 x.c1 lo hi (left) _ (R1.out.new (by repeat (first | with_reducible exact Below.refl _ _ | (with_reducible exact HB.out) | (with_reducible refine Below.setCell ?_ (by first | omega | (simp; done) | (simp <;> omega)) _) | (with_reducible refine Below.alloc ?_ (by first | omega | (simp; done) | (simp <;> omega)) _) | (refine Below.alloc ?_ (by first | omega | (simp; done) | (simp <;> omega)) _) | (refine Below.setCell ?_ (by first | omega | (simp; done) | (simp <;> omega)) _)))) (by omega) (by omega)) ?_
    rintro e w1 hq
    obtain ⟨rfl, hb⟩ := hq
    obtain ⟨hc1, hf1⟩ := bcell hb
    have hs1 := hb.size
    (try simp at hs1)
    replace HB := Lib.hid (show Below w.heap.size w w1 from Below.trans (by repeat (first | with_reducible exact Below.refl _ _ | (with_reducible exact HB.out) | (with_reducible refine Below.setCell ?_ (by first | omega | (simp; done) | (simp <;> omega)) _) | (with_reducible refine Below.alloc ?_ (by first | omega | (simp; done) | (simp <;> omega)) _) | (refine Below.alloc ?_ (by first | omega | (simp; done) | (simp <;> omega)) _) | (refine Below.setCell ?_ (by first | omega | (simp; done) | (simp <;> omega)) _))) (hb.mono (by first | omega | (simp; done) | (simp <;> omega))))
    have z1_0 : w.heap.size < w1.heap.size := by omega
    clear hb
    go_wp2_with fail
    refine Calls.mono (sz_packages x.l2 x.A2 x.n2 x.c2 lo hi (left - ((x.n1 + MTab.szs (x.l1.map DTab.dat) : Nat) : Int)) _ (R2.out.new (by repeat (first | with_reducible exact Below.refl _ _ | (with_reducible exact HB.out) | (with_reducible refine Below.setCell ?_ (by first | omega | (simp; done) | (simp <;> omega)) _) | (with_reducible refine Below.alloc ?_ (by first | omega | (simp; done) | (simp <;> omega)) _) | (refine Below.alloc ?_ (by first | omega | (simp; done) | (simp <;> omega)) _) | (refine Below.setCell ?_ (by first | omega | (simp; done) | (simp <;> omega)) _)))) (by omega) (by omega)) ?_
    rintro e w2 hq
    obtain ⟨rfl, hb⟩ := hq
    obtain ⟨hc2, hf2⟩ := bcell hb
    have hs2 := hb.size
    (try simp at hs2)
    replace HB := Lib.hid (show Below w.heap.size w w2 from Below.trans (by repeat (first | with_reducible exact Below.refl _ _ | (with_reducible exact HB.out) | (with_reducible refine Below.setCell ?_ (by first | omega | (simp; done) | (simp <;> omega)) _) | (with_reducible refine Below.alloc ?_ (by first | omega | (simp; done) | (simp <;> omega)) _) | (refine Below.alloc ?_ (by first | omega | (simp; done) | (simp <;> omega)) _) | (refine Below.setCell ?_ (by first | omega | (simp; done) | (simp <;> omega)) _))) (hb.mono (by first | omega | (simp; done) | (simp <;> omega))))
    have z2_0 : w.heap.size < w2.heap.size := by omega
    clear hb
    go_wp2_with fail
    refine Calls.mono (sz_grant x.A3 x.n3 x.c3 (left - ((x.n1 + MTab.szs (x.l1.map DTab.dat) : Nat) : Int) - ((x.n2 + MPackage.szs (x.l2.map DPackage.dat) : Nat) : Int)) _ m3 (by omega) (by omega)) ?_
    rintro e w3 hq
    obtain ⟨rfl, hb⟩ := hq.says
    obtain ⟨hc3, hf3⟩ := bcell hb
    have hs3 := hb.size
    (try simp at hs3)
    replace HB := Lib.hid (show Below w.heap.size w w3 from Below.trans (by repeat (first | with_reducible exact Below.refl _ _ | (with_reducible exact HB.out) | (with_reducible refine Below.setCell ?_ (by first | omega | (simp; done) | (simp <;> omega)) _) | (with_reducible refine Below.alloc ?_ (by first | omega | (simp; done) | (simp <;> omega)) _) | (refine Below.alloc ?_ (by first | omega | (simp; done) | (simp <;> omega)) _) | (refine Below.setCell ?_ (by first | omega | (simp; done) | (simp <;> omega)) _))) (hb.mono (by first | omega | (simp; done) | (simp <;> omega))))
    have z3_0 : w.heap.size < w3.heap.size := by omega
    clear hb
    go_wp2_with fail
    refine Calls.mono (sz_limit x.A4 x.n4 x.c4 (left - ((x.n1 + MTab.szs (x.l1.map DTab.dat) : Nat) : Int) - ((x.n2 + MPackage.szs (x.l2.map DPackage.dat) : Nat) : Int) - (x.n3 : Int)) _ m4 (by omega) (by omega)) ?_
    rintro e w4 hq
    obtain ⟨rfl, hb⟩ := hq.says
    obtain ⟨hc4, hf4⟩ := bcell hb
    have hs4 := hb.size
    (try simp at hs4)
    replace HB := Lib.hid (show Below w.heap.size w w4 from Below.trans (by repeat (first | with_reducible exact Below.refl _ _ | (with_reducible exact HB.out) | (with_reducible refine Below.setCell ?_ (by first | omega | (simp; done) | (simp <;> omega)) _) | (with_reducible refine Below.alloc ?_ (by first | omega | (simp; done) | (simp <;> omega)) _) | (refine Below.alloc ?_ (by first | omega | (simp; done) | (simp <;> omega)) _) | (refine Below.setCell ?_ (by first | omega | (simp; done) | (simp <;> omega)) _))) (hb.mono (by first | omega | (simp; done) | (simp <;> omega))))
    have z4_0 : w.heap.size < w4.heap.size := by omega
    clear hb
    go_wp2_with fail
    refine Calls.mono (szno_rule x.A5 x.n5 x.c5 (left - ((x.n1 + MTab.szs (x.l1.map DTab.dat) : Nat) : Int) - ((x.n2 + MPackage.szs (x.l2.map DPackage.dat) : Nat) : Int) - (x.n3 : Int) - (x.n4 : Int)) _ m5 (by omega) (by omega) (by omega)) ?_
    rintro e w5 hq
    obtain ⟨rfl, hb⟩ := hq.says
    obtain ⟨hc5, hf5⟩ := bcell hb
    have hs5 := hb.size
    (try simp at hs5)
    replace HB := Lib.hid (show Below w.heap.size w w5 from Below.trans (by repeat (first | with_reducible exact Below.refl _ _ | (with_reducible exact HB.out) | (with_reducible refine Below.setCell ?_ (by first | omega | (simp; done) | (simp <;> omega)) _) | (with_reducible refine Below.alloc ?_ (by first | omega | (simp; done) | (simp <;> omega)) _) | (refine Below.alloc ?_ (by first | omega | (simp; done) | (simp <;> omega)) _) | (refine Below.setCell ?_ (by first | omega | (simp; done) | (simp <;> omega)) _))) (hb.mono (by first | omega | (simp; done) | (simp <;> omega))))
    have z5_0 : w.heap.size < w5.heap.size := by omega
    clear hb
    go_wp2_with fail
    go_ret
    exact ⟨rfl, by repeat (first | with_reducible exact Below.refl _ _ | (with_reducible exact HB.out) | (with_reducible refine Below.setCell ?_ (by first | omega | (simp; done) | (simp <;> omega)) _) | (with_reducible refine Below.alloc ?_ (by first | omega | (simp; done) | (simp <;> omega)) _) | (refine Below.alloc ?_ (by first | omega | (simp; done) | (simp <;> omega)) _) | (refine Below.setCell ?_ (by first | omega | (simp; done) | (simp <;> omega)) _))⟩
  have g0 : decide (left - ((x.n1 + MTab.szs (x.l1.map DTab.dat) : Nat) : Int) < 0) = false := by simp; omega
  have g1 : decide (left - ((x.n1 + MTab.szs (x.l1.map DTab.dat) : Nat) : Int) - ((x.n2 + MPackage.szs (x.l2.map DPackage.dat) : Nat) : Int) < 0) = false := by simp; omega
  have g2 : decide (left - ((x.n1 + MTab.szs (x.l1.map DTab.dat) : Nat) : Int) - ((x.n2 + MPackage.szs (x.l2.map DPackage.dat) : Nat) : Int) - (x.n3 : Int) < 0) = false := by simp; omega
  have g3 : decide (left - ((x.n1 + MTab.szs (x.l1.map DTab.dat) : Nat) : Int) - ((x.n2 + MPackage.szs (x.l2.map DPackage.dat) : Nat) : Int) - (x.n3 : Int) - (x.n4 : Int) < 0) = false := by simp; omega
  have g4 : decide (left - ((x.n1 + MTab.szs (x.l1.map DTab.dat) : Nat) : Int) - ((x.n2 + MPackage.szs (x.l2.map DPackage.dat) : Nat) : Int) - (x.n3 : Int) - (x.n4 : Int) - (x.n5 : Int) < 0) = false := by simp; omega
  go_enter Tryz.func4, Tryz.ntmps4
  go_wp2_with fail
  refine Calls.mono (sz_tabs x.l1 x.A1 x.n1 x.c1 lo hi (left) _ (R1.out.new (by repeat (first | with_reducible exact Below.refl _ _ | (with_reducible exact HB.out) | (with_reducible refine Below.setCell ?_ (by first | omega | (simp; done) | (simp <;> omega)) _) | (with_reducible refine Below.alloc ?_ (by first | omega | (simp; done) | (simp <;> omega)) _) | (refine Below.alloc ?_ (by first | omega | (simp; done) | (simp <;> omega)) _) | (refine Below.setCell ?_ (by first | omega | (simp; done) | (simp <;> omega)) _)))) (by omega) (by omega)) ?_
  rintro e w1 hq
  obtain ⟨rfl, hb⟩ := hq
  obtain ⟨hc1, hf1⟩ := bcell hb
  have hs1 := hb.size
  (try simp at hs1)
  replace HB := Lib.hid (show Below w.heap.size w w1 from Below.trans (by repeat (first | with_reducible exact Below.refl _ _ | (with_reducible exact HB.out) | (with_reducible refine Below.setCell ?_ (by first | omega | (simp; done) | (simp <;> omega)) _) | (with_reducible refine Below.alloc ?_ (by first | omega | (simp; done) | (simp <;> omega)) _) | (refine Below.alloc ?_ (by first | omega | (simp; done) | (simp <;> omega)) _) | (refine Below.setCell ?_ (by first | omega | (simp; done) | (simp <;> omega)) _))) (hb.mono (by first | omega | (simp; done) | (simp <;> omega))))
  have z1_0 : w.heap.size < w1.heap.size := by omega
  clear hb
  go_wp2_with fail
  refine Calls.mono (sz_packages x.l2 x.A2 x.n2 x.c2 lo hi (left - ((x.n1 + MTab.szs (x.l1.map DTab.dat) : Nat) : Int)) _ (R2.out.new (by repeat (first | with_reducible exact Below.refl _ _ | (with_reducible exact HB.out) | (with_reducible refine Below.setCell ?_ (by first | omega | (simp; done) | (simp <;> omega)) _) | (with_reducible refine Below.alloc ?_ (by first | omega | (simp; done) | (simp <;> omega)) _) | (refine Below.alloc ?_ (by first | omega | (simp; done) | (simp <;> omega)) _) | (refine Below.setCell ?_ (by first | omega | (simp; done) | (simp <;> omega)) _)))) (by omega) (by omega)) ?_
  rintro e w2 hq
  obtain ⟨rfl, hb⟩ := hq
  obtain ⟨hc2, hf2⟩ := bcell hb
  have hs2 := hb.size
  (try simp at hs2)
  replace HB := Lib.hid (show Below w.heap.size w w2 from Below.trans (by repeat (first | with_reducible exact Below.refl _ _ | (with_reducible exact HB.out) | (with_reducible refine Below.setCell ?_ (by first | omega | (simp; done) | (simp <;> omega)) _) | (with_reducible refine Below.alloc ?_ (by first | omega | (simp; done) | (simp <;> omega)) _) | (refine Below.alloc ?_ (by first | omega | (simp; done) | (simp <;> omega)) _) | (refine Below.setCell ?_ (by first | omega | (simp; done) | (simp <;> omega)) _))) (hb.mono (by first | omega | (simp; done) | (simp <;> omega))))
  have z2_0 : w.heap.size < w2.heap.size := by omega
  clear hb
  go_wp2_with fail
  refine Calls.mono (sz_grant x.A3 x.n3 x.c3 (left - ((x.n1 + MTab.szs (x.l1.map DTab.dat) : Nat) : Int) - ((x.n2 + MPackage.szs (x.l2.map DPackage.dat) : Nat) : Int)) _ m3 (by omega) (by omega)) ?_
  rintro e w3 hq
  obtain ⟨rfl, hb⟩ := hq.says
  obtain ⟨hc3, hf3⟩ := bcell hb
  have hs3 := hb.size
  (try simp at hs3)
  replace HB := Lib.hid (show Below w.heap.size w w3 from Below.trans (by repeat (first | with_reducible exact Below.refl _ _ | (with_reducible exact HB.out) | (with_reducible refine Below.setCell ?_ (by first | omega | (simp; done) | (simp <;> omega)) _) | (with_reducible refine Below.alloc ?_ (by first | omega | (simp; done) | (simp <;> omega)) _) | (refine Below.alloc ?_ (by first | omega | (simp; done) | (simp <;> omega)) _) | (refine Below.setCell ?_ (by first | omega | (simp; done) | (simp <;> omega)) _))) (hb.mono (by first | omega | (simp; done) | (simp <;> omega))))
  have z3_0 : w.heap.size < w3.heap.size := by omega
  clear hb
  go_wp2_with fail
  refine Calls.mono (sz_limit x.A4 x.n4 x.c4 (left - ((x.n1 + MTab.szs (x.l1.map DTab.dat) : Nat) : Int) - ((x.n2 + MPackage.szs (x.l2.map DPackage.dat) : Nat) : Int) - (x.n3 : Int)) _ m4 (by omega) (by omega)) ?_
  rintro e w4 hq
  obtain ⟨rfl, hb⟩ := hq.says
  obtain ⟨hc4, hf4⟩ := bcell hb
  have hs4 := hb.size
  (try simp at hs4)
  replace HB := Lib.hid (show Below w.heap.size w w4 from Below.trans (by repeat (first | with_reducible exact Below.refl _ _ | (with_reducible exact HB.out) | (with_reducible refine Below.setCell ?_ (by first | omega | (simp; done) | (simp <;> omega)) _) | (with_reducible refine Below.alloc ?_ (by first | omega | (simp; done) | (simp <;> omega)) _) | (refine Below.alloc ?_ (by first | omega | (simp; done) | (simp <;> omega)) _) | (refine Below.setCell ?_ (by first | omega | (simp; done) | (simp <;> omega)) _))) (hb.mono (by first | omega | (simp; done) | (simp <;> omega))))
  have z4_0 : w.heap.size < w4.heap.size := by omega
  clear hb
  go_wp2_with fail
  refine Calls.mono (sz_rule x.A5 x.n5 x.c5 (left - ((x.n1 + MTab.szs (x.l1.map DTab.dat) : Nat) : Int) - ((x.n2 + MPackage.szs (x.l2.map DPackage.dat) : Nat) : Int) - (x.n3 : Int) - (x.n4 : Int)) _ m5 (by omega) (by omega)) ?_
  rintro e w5 hq
  obtain ⟨rfl, hb⟩ := hq.says
  obtain ⟨hc5, hf5⟩ := bcell hb
  have hs5 := hb.size
  (try simp at hs5)
  replace HB := Lib.hid (show Below w.heap.size w w5 from Below.trans (by repeat (first | with_reducible exact Below.refl _ _ | (with_reducible exact HB.out) | (with_reducible refine Below.setCell ?_ (by first | omega | (simp; done) | (simp <;> omega)) _) | (with_reducible refine Below.alloc ?_ (by first | omega | (simp; done) | (simp <;> omega)) _) | (refine Below.alloc ?_ (by first | omega | (simp; done) | (simp <;> omega)) _) | (refine Below.setCell ?_ (by first | omega | (simp; done) | (simp <;> omega)) _))) (hb.mono (by first | omega | (simp; done) | (simp <;> omega))))
  have z5_0 : w.heap.size < w5.heap.size := by omega
  clear hb
  go_wp2_with fail
  refine Calls.mono (szno_stored x.A6 x.n6 x.c6 (left - ((x.n1 + MTab.szs (x.l1.map DTab.dat) : Nat) : Int) - ((x.n2 + MPackage.szs (x.l2.map DPackage.dat) : Nat) : Int) - (x.n3 : Int) - (x.n4 : Int) - (x.n5 : Int)) _ m6 (by omega) (by omega) (by omega)) ?_
  rintro e w6 hq
  obtain ⟨rfl, hb⟩ := hq.says
  obtain ⟨hc6, hf6⟩ := bcell hb
  have hs6 := hb.size
  (try simp at hs6)
  replace HB := Lib.hid (show Below w.heap.size w w6 from Below.trans (by repeat (first | with_reducible exact Below.refl _ _ | (with_reducible exact HB.out) | (with_reducible refine Below.setCell ?_ (by first | omega | (simp; done) | (simp <;> omega)) _) | (with_reducible refine Below.alloc ?_ (by first | omega | (simp; done) | (simp <;> omega)) _) | (refine Below.alloc ?_ (by first | omega | (simp; done) | (simp <;> omega)) _) | (refine Below.setCell ?_ (by first | omega | (simp; done) | (simp <;> omega)) _))) (hb.mono (by first | omega | (simp; done) | (simp <;> omega))))
  have z6_0 : w.heap.size < w6.heap.size := by omega
  clear hb
  go_wp2_with fail
  go_ret
  exact ⟨rfl, by repeat (first | with_reducible exact Below.refl _ _ | (with_reducible exact HB.out) | (with_reducible refine Below.setCell ?_ (by first | omega | (simp; done) | (simp <;> omega)) _) | (with_reducible refine Below.alloc ?_ (by first | omega | (simp; done) | (simp <;> omega)) _) | (refine Below.alloc ?_ (by first | omega | (simp; done) | (simp <;> omega)) _) | (refine Below.setCell ?_ (by first | omega | (simp; done) | (simp <;> omega)) _))⟩

theorem eq_browser_same (x y : DBrowser) (lo hi lo' hi' : Nat) (w : World) (hd : y.dat = x.dat) (hz : x.dat.sz ≤ 1048576) (h : x.rd w lo hi) (h' : y.rd w lo' hi') :
    Calls Tryz.prog 9 #[.agg #[.int .i64 x.p0, .slice x.A1 x.n1 x.c1, .slice x.A2 x.n2 x.c2, .slice x.A3 x.n3 x.c3, .slice x.A4 x.n4 x.c4, .slice x.A5 x.n5 x.c5, .slice x.A6 x.n6 x.c6, .int .i64 x.p7], .agg #[.int .i64 y.p0, .slice y.A1 y.n1 y.c1, .slice y.A2 y.n2 y.c2, .slice y.A3 y.n3 y.c3, .slice y.A4 y.n4 y.c4, .slice y.A5 y.n5 y.c5, .slice y.A6 y.n6 y.c6, .int .i64 y.p7]] w (Says (.bool true) w) := by
  have HLX := h.len
  have HLY := h'.len
  rw [h.sz] at hz
  have HT : Hid (∀ t ∈ x.l1, t.dat.sz ≤ 1048576) := Lib.hid fun t ht => by
    obtain ⟨i, hi, rfl⟩ := List.mem_iff_getElem.1 ht
    have := MTab.szs_mem (x.l1.map DTab.dat) i (x.l1[i]).dat (by rw [List.getElem?_map, List.getElem?_eq_getElem hi]; rfl)
    omega
  have HP : Hid (∀ t ∈ x.l2, t.dat.sz ≤ 1048576) := Lib.hid fun t ht => by
    obtain ⟨i, hi, rfl⟩ := List.mem_iff_getElem.1 ht
    have := MPackage.szs_mem (x.l2.map DPackage.dat) i (x.l2[i]).dat (by rw [List.getElem?_map, List.getElem?_eq_getElem hi]; rfl)
    omega
  have hz' : x.n1 + x.n2 + x.n3 + x.n4 + x.n5 + x.n6 ≤ 1048576 := by omega
  clear hz
  obtain ⟨h1, h2, h3, h4, h5, h6⟩ := h
  obtain ⟨k1, k2, k3, k4, k5, k6⟩ := h'
  obtain ⟨p0', A1', n1', c1', l1', A2', n2', c2', l2', A3', n3', c3', l3', A4', n4', c4', l4', A5', n5', c5', l5', A6', n6', c6', l6', p7'⟩ := y
  simp only [DBrowser.dat, MBrowser.mk.injEq] at hd
  obtain ⟨rfl, hd1, hd2, rfl, rfl, rfl, rfl, rfl⟩ := hd
  dsimp only at HLX HLY k1 k2 k3 k4 k5 k6
  have E1 := Lib.hid hd1
  have E2 := Lib.hid hd2
  have hl1 := congrArg List.length hd1
  have hl2 := congrArg List.length hd2
  simp only [List.length_map] at hl1 hl2
  obtain rfl : n1' = x.n1 := by omega
  obtain rfl : n2' = x.n2 := by omega
  obtain rfl : n3' = x.n3 := by omega
  obtain rfl : n4' = x.n4 := by omega
  obtain rfl : n5' = x.n5 := by omega
  obtain rfl : n6' = x.n6 := by omega
  clear HLX HLY hd1 hd2 hl1 hl2
  have R1 := Lib.hid h1
  have R1' := Lib.hid k1
  clear h1 k1
  have R2 := Lib.hid h2
  have R2' := Lib.hid k2
  clear h2 k2
  have R3 := Lib.hid h3.2
  have R3' := Lib.hid k3.2
  clear h3 k3
  have R4 := Lib.hid h4.2
  have R4' := Lib.hid k4.2
  clear h4 k4
  have R5 := Lib.hid h5.2
  have R5' := Lib.hid k5.2
  clear h5 k5
  have R6 := Lib.hid h6.2
  have R6' := Lib.hid k6.2
  clear h6 k6
  have HB := Lib.hid (Below.refl w.heap.size w)
  go_enter Tryz.func9, Tryz.ntmps9
  go_wp2_with fail
  refine Calls.mono (eq_tabs_same x.l1 l1' x.A1 A1' x.n1 x.n1 x.c1 c1' lo hi lo' hi' _ E1.out (by omega) HT.out (R1.out.new (by repeat (first | with_reducible exact Below.refl _ _ | (with_reducible exact HB.out) | (with_reducible refine Below.setCell ?_ (by first | omega | (simp; done) | (simp <;> omega)) _) | (with_reducible refine Below.alloc ?_ (by first | omega | (simp; done) | (simp <;> omega)) _) | (refine Below.alloc ?_ (by first | omega | (simp; done) | (simp <;> omega)) _) | (refine Below.setCell ?_ (by first | omega | (simp; done) | (simp <;> omega)) _)))) (R1'.out.new (by repeat (first | with_reducible exact Below.refl _ _ | (with_reducible exact HB.out) | (with_reducible refine Below.setCell ?_ (by first | omega | (simp; done) | (simp <;> omega)) _) | (with_reducible refine Below.alloc ?_ (by first | omega | (simp; done) | (simp <;> omega)) _) | (refine Below.alloc ?_ (by first | omega | (simp; done) | (simp <;> omega)) _) | (refine Below.setCell ?_ (by first | omega | (simp; done) | (simp <;> omega)) _))))) ?_
  rintro e w1 ⟨rfl, hb⟩
  obtain ⟨hc1, hf1⟩ := bcell hb
  have hs1 := hb.size
  (try simp at hs1)
  replace HB := Lib.hid (show Below w.heap.size w w1 from Below.trans (by repeat (first | with_reducible exact Below.refl _ _ | (with_reducible exact HB.out) | (with_reducible refine Below.setCell ?_ (by first | omega | (simp; done) | (simp <;> omega)) _) | (with_reducible refine Below.alloc ?_ (by first | omega | (simp; done) | (simp <;> omega)) _) | (refine Below.alloc ?_ (by first | omega | (simp; done) | (simp <;> omega)) _) | (refine Below.setCell ?_ (by first | omega | (simp; done) | (simp <;> omega)) _))) (hb.mono (by first | omega | (simp; done) | (simp <;> omega))))
  have z1_0 : w.heap.size < w1.heap.size := by omega
  have z1_1 : w.heap.size + 1 < w1.heap.size := by omega
  clear hb
  go_wp2_with fail
  refine Calls.mono (eq_packages_same x.l2 l2' x.A2 A2' x.n2 x.n2 x.c2 c2' lo hi lo' hi' _ E2.out (by omega) HP.out (R2.out.new (by repeat (first | with_reducible exact Below.refl _ _ | (with_reducible exact HB.out) | (with_reducible refine Below.setCell ?_ (by first | omega | (simp; done) | (simp <;> omega)) _) | (with_reducible refine Below.alloc ?_ (by first | omega | (simp; done) | (simp <;> omega)) _) | (refine Below.alloc ?_ (by first | omega | (simp; done) | (simp <;> omega)) _) | (refine Below.setCell ?_ (by first | omega | (simp; done) | (simp <;> omega)) _)))) (R2'.out.new (by repeat (first | with_reducible exact Below.refl _ _ | (with_reducible exact HB.out) | (with_reducible refine Below.setCell ?_ (by first | omega | (simp; done) | (simp <;> omega)) _) | (with_reducible refine Below.alloc ?_ (by first | omega | (simp; done) | (simp <;> omega)) _) | (refine Below.alloc ?_ (by first | omega | (simp; done) | (simp <;> omega)) _) | (refine Below.setCell ?_ (by first | omega | (simp; done) | (simp <;> omega)) _))))) ?_
  rintro e w2 ⟨rfl, hb⟩
  obtain ⟨hc2, hf2⟩ := bcell hb
  have hs2 := hb.size
  (try simp at hs2)
  replace HB := Lib.hid (show Below w.heap.size w w2 from Below.trans (by repeat (first | with_reducible exact Below.refl _ _ | (with_reducible exact HB.out) | (with_reducible refine Below.setCell ?_ (by first | omega | (simp; done) | (simp <;> omega)) _) | (with_reducible refine Below.alloc ?_ (by first | omega | (simp; done) | (simp <;> omega)) _) | (refine Below.alloc ?_ (by first | omega | (simp; done) | (simp <;> omega)) _) | (refine Below.setCell ?_ (by first | omega | (simp; done) | (simp <;> omega)) _))) (hb.mono (by first | omega | (simp; done) | (simp <;> omega))))
  have z2_0 : w.heap.size < w2.heap.size := by omega
  have z2_1 : w.heap.size + 1 < w2.heap.size := by omega
  clear hb
  go_wp2_with fail
  refine Calls.mono (eq_grant_same x.l3 x.A3 A3' x.n3 x.n3 x.c3 c3' lo hi lo' hi' _ (by omega) (by omega) (R3.out.new (by repeat (first | with_reducible exact Below.refl _ _ | (with_reducible exact HB.out) | (with_reducible refine Below.setCell ?_ (by first | omega | (simp; done) | (simp <;> omega)) _) | (with_reducible refine Below.alloc ?_ (by first | omega | (simp; done) | (simp <;> omega)) _) | (refine Below.alloc ?_ (by first | omega | (simp; done) | (simp <;> omega)) _) | (refine Below.setCell ?_ (by first | omega | (simp; done) | (simp <;> omega)) _)))) (R3'.out.new (by repeat (first | with_reducible exact Below.refl _ _ | (with_reducible exact HB.out) | (with_reducible refine Below.setCell ?_ (by first | omega | (simp; done) | (simp <;> omega)) _) | (with_reducible refine Below.alloc ?_ (by first | omega | (simp; done) | (simp <;> omega)) _) | (refine Below.alloc ?_ (by first | omega | (simp; done) | (simp <;> omega)) _) | (refine Below.setCell ?_ (by first | omega | (simp; done) | (simp <;> omega)) _))))) ?_
  rintro e w3 ⟨rfl, hb⟩
  obtain ⟨hc3, hf3⟩ := bcell hb
  have hs3 := hb.size
  (try simp at hs3)
  replace HB := Lib.hid (show Below w.heap.size w w3 from Below.trans (by repeat (first | with_reducible exact Below.refl _ _ | (with_reducible exact HB.out) | (with_reducible refine Below.setCell ?_ (by first | omega | (simp; done) | (simp <;> omega)) _) | (with_reducible refine Below.alloc ?_ (by first | omega | (simp; done) | (simp <;> omega)) _) | (refine Below.alloc ?_ (by first | omega | (simp; done) | (simp <;> omega)) _) | (refine Below.setCell ?_ (by first | omega | (simp; done) | (simp <;> omega)) _))) (hb.mono (by first | omega | (simp; done) | (simp <;> omega))))
  have z3_0 : w.heap.size < w3.heap.size := by omega
  have z3_1 : w.heap.size + 1 < w3.heap.size := by omega
  clear hb
  go_wp2_with fail
  refine Calls.mono (eq_limit_same x.l4 x.A4 A4' x.n4 x.n4 x.c4 c4' lo hi lo' hi' _ (by omega) (by omega) (R4.out.new (by repeat (first | with_reducible exact Below.refl _ _ | (with_reducible exact HB.out) | (with_reducible refine Below.setCell ?_ (by first | omega | (simp; done) | (simp <;> omega)) _) | (with_reducible refine Below.alloc ?_ (by first | omega | (simp; done) | (simp <;> omega)) _) | (refine Below.alloc ?_ (by first | omega | (simp; done) | (simp <;> omega)) _) | (refine Below.setCell ?_ (by first | omega | (simp; done) | (simp <;> omega)) _)))) (R4'.out.new (by repeat (first | with_reducible exact Below.refl _ _ | (with_reducible exact HB.out) | (with_reducible refine Below.setCell ?_ (by first | omega | (simp; done) | (simp <;> omega)) _) | (with_reducible refine Below.alloc ?_ (by first | omega | (simp; done) | (simp <;> omega)) _) | (refine Below.alloc ?_ (by first | omega | (simp; done) | (simp <;> omega)) _) | (refine Below.setCell ?_ (by first | omega | (simp; done) | (simp <;> omega)) _))))) ?_
  rintro e w4 ⟨rfl, hb⟩
  obtain ⟨hc4, hf4⟩ := bcell hb
  have hs4 := hb.size
  (try simp at hs4)
  replace HB := Lib.hid (show Below w.heap.size w w4 from Below.trans (by repeat (first | with_reducible exact Below.refl _ _ | (with_reducible exact HB.out) | (with_reducible refine Below.setCell ?_ (by first | omega | (simp; done) | (simp <;> omega)) _) | (with_reducible refine Below.alloc ?_ (by first | omega | (simp; done) | (simp <;> omega)) _) | (refine Below.alloc ?_ (by first | omega | (simp; done) | (simp <;> omega)) _) | (refine Below.setCell ?_ (by first | omega | (simp; done) | (simp <;> omega)) _))) (hb.mono (by first | omega | (simp; done) | (simp <;> omega))))
  have z4_0 : w.heap.size < w4.heap.size := by omega
  have z4_1 : w.heap.size + 1 < w4.heap.size := by omega
  clear hb
  go_wp2_with fail
  refine Calls.mono (eq_rule_same x.l5 x.A5 A5' x.n5 x.n5 x.c5 c5' lo hi lo' hi' _ (by omega) (by omega) (R5.out.new (by repeat (first | with_reducible exact Below.refl _ _ | (with_reducible exact HB.out) | (with_reducible refine Below.setCell ?_ (by first | omega | (simp; done) | (simp <;> omega)) _) | (with_reducible refine Below.alloc ?_ (by first | omega | (simp; done) | (simp <;> omega)) _) | (refine Below.alloc ?_ (by first | omega | (simp; done) | (simp <;> omega)) _) | (refine Below.setCell ?_ (by first | omega | (simp; done) | (simp <;> omega)) _)))) (R5'.out.new (by repeat (first | with_reducible exact Below.refl _ _ | (with_reducible exact HB.out) | (with_reducible refine Below.setCell ?_ (by first | omega | (simp; done) | (simp <;> omega)) _) | (with_reducible refine Below.alloc ?_ (by first | omega | (simp; done) | (simp <;> omega)) _) | (refine Below.alloc ?_ (by first | omega | (simp; done) | (simp <;> omega)) _) | (refine Below.setCell ?_ (by first | omega | (simp; done) | (simp <;> omega)) _))))) ?_
  rintro e w5 ⟨rfl, hb⟩
  obtain ⟨hc5, hf5⟩ := bcell hb
  have hs5 := hb.size
  (try simp at hs5)
  replace HB := Lib.hid (show Below w.heap.size w w5 from Below.trans (by repeat (first | with_reducible exact Below.refl _ _ | (with_reducible exact HB.out) | (with_reducible refine Below.setCell ?_ (by first | omega | (simp; done) | (simp <;> omega)) _) | (with_reducible refine Below.alloc ?_ (by first | omega | (simp; done) | (simp <;> omega)) _) | (refine Below.alloc ?_ (by first | omega | (simp; done) | (simp <;> omega)) _) | (refine Below.setCell ?_ (by first | omega | (simp; done) | (simp <;> omega)) _))) (hb.mono (by first | omega | (simp; done) | (simp <;> omega))))
  have z5_0 : w.heap.size < w5.heap.size := by omega
  have z5_1 : w.heap.size + 1 < w5.heap.size := by omega
  clear hb
  go_wp2_with fail
  refine Calls.mono (eq_stored_same x.l6 x.A6 A6' x.n6 x.n6 x.c6 c6' lo hi lo' hi' _ (by omega) (by omega) (R6.out.new (by repeat (first | with_reducible exact Below.refl _ _ | (with_reducible exact HB.out) | (with_reducible refine Below.setCell ?_ (by first | omega | (simp; done) | (simp <;> omega)) _) | (with_reducible refine Below.alloc ?_ (by first | omega | (simp; done) | (simp <;> omega)) _) | (refine Below.alloc ?_ (by first | omega | (simp; done) | (simp <;> omega)) _) | (refine Below.setCell ?_ (by first | omega | (simp; done) | (simp <;> omega)) _)))) (R6'.out.new (by repeat (first | with_reducible exact Below.refl _ _ | (with_reducible exact HB.out) | (with_reducible refine Below.setCell ?_ (by first | omega | (simp; done) | (simp <;> omega)) _) | (with_reducible refine Below.alloc ?_ (by first | omega | (simp; done) | (simp <;> omega)) _) | (refine Below.alloc ?_ (by first | omega | (simp; done) | (simp <;> omega)) _) | (refine Below.setCell ?_ (by first | omega | (simp; done) | (simp <;> omega)) _))))) ?_
  rintro e w6 ⟨rfl, hb⟩
  obtain ⟨hc6, hf6⟩ := bcell hb
  have hs6 := hb.size
  (try simp at hs6)
  replace HB := Lib.hid (show Below w.heap.size w w6 from Below.trans (by repeat (first | with_reducible exact Below.refl _ _ | (with_reducible exact HB.out) | (with_reducible refine Below.setCell ?_ (by first | omega | (simp; done) | (simp <;> omega)) _) | (with_reducible refine Below.alloc ?_ (by first | omega | (simp; done) | (simp <;> omega)) _) | (refine Below.alloc ?_ (by first | omega | (simp; done) | (simp <;> omega)) _) | (refine Below.setCell ?_ (by first | omega | (simp; done) | (simp <;> omega)) _))) (hb.mono (by first | omega | (simp; done) | (simp <;> omega))))
  have z6_0 : w.heap.size < w6.heap.size := by omega
  have z6_1 : w.heap.size + 1 < w6.heap.size := by omega
  clear hb
  go_wp2_with fail
  go_ret
  exact ⟨rfl, by repeat (first | with_reducible exact Below.refl _ _ | (with_reducible exact HB.out) | (with_reducible refine Below.setCell ?_ (by first | omega | (simp; done) | (simp <;> omega)) _) | (with_reducible refine Below.alloc ?_ (by first | omega | (simp; done) | (simp <;> omega)) _) | (refine Below.alloc ?_ (by first | omega | (simp; done) | (simp <;> omega)) _) | (refine Below.setCell ?_ (by first | omega | (simp; done) | (simp <;> omega)) _))⟩

theorem mark_browser (x : DBrowser) (k0 lo hi : Nat) (w : World) (hk0 : k0 + x.cnt ≤ 4294967296) (hz : x.dat.sz ≤ 1048576) (h : x.fr w lo hi) (hw : hi ≤ w.heap.size) :
    Calls Tryz.prog 10 #[.agg #[.int .i64 x.p0, .slice x.A1 x.n1 x.c1, .slice x.A2 x.n2 x.c2, .slice x.A3 x.n3 x.c3, .slice x.A4 x.n4 x.c4, .slice x.A5 x.n5 x.c5, .slice x.A6 x.n6 x.c6, .int .i64 x.p7], .int .i64 (k0 : Int)] w (fun e w' => e = .returned (.int .i64 ((k0 + x.cnt : Nat) : Int)) ∧ Chg lo hi w w') := by
  rw [h.rd.sz] at hz
  have HT : Hid (∀ t ∈ x.l1, t.dat.sz ≤ 1048576) := Lib.hid fun t ht => by
    obtain ⟨i, hi, rfl⟩ := List.mem_iff_getElem.1 ht
    have := MTab.szs_mem (x.l1.map DTab.dat) i (x.l1[i]).dat (by rw [List.getElem?_map, List.getElem?_eq_getElem hi]; rfl)
    omega
  have HP : Hid (∀ t ∈ x.l2, t.dat.sz ≤ 1048576) := Lib.hid fun t ht => by
    obtain ⟨i, hi, rfl⟩ := List.mem_iff_getElem.1 ht
    have := MPackage.szs_mem (x.l2.map DPackage.dat) i (x.l2[i]).dat (by rw [List.getElem?_map, List.getElem?_eq_getElem hi]; rfl)
    omega
  have hz' : x.n1 + x.n2 + x.n3 + x.n4 + x.n5 + x.n6 ≤ 1048576 := by omega
  clear hz
  have hk1 : k0 + ((DTab.cnts x.l1) + (DPackage.cnts x.l2) + (x.n3 * 7) + (x.n4 * 4) + (x.n5 * 8) + (x.n6 * 4)) ≤ 4294967296 := hk0
  obtain ⟨lo1, hi1, lo2, hi2, lo3, hi3, lo4, hi4, lo5, hi5, lo6, hi6, r1, r2, r3, r4, r5, r6, d0, d1, d2, d3, d4, d5, d6, d7, d8, d9, d10, d11, d12⟩ := h
  replace r1 := Lib.hid r1
  replace r2 := Lib.hid r2
  replace r3 := Lib.hid r3.2
  replace r4 := Lib.hid r4.2
  replace r5 := Lib.hid r5.2
  replace r6 := Lib.hid r6.2
  have HC := Lib.hid (Chg.refl lo hi w)
  have KB := Lib.hid (box_new w 40 #[.int .i64 x.p0, .slice x.A1 x.n1 x.c1, .slice x.A2 x.n2 x.c2, .slice x.A3 x.n3 x.c3, .slice x.A4 x.n4 x.c4, .slice x.A5 x.n5 x.c5, .slice x.A6 x.n6 x.c6, .int .i64 x.p7])
  have hs0 : w.heap.size ≤ w.heap.size := Nat.le_refl _
  go_enter Tryz.func10, Tryz.ntmps10
  go_wp2_with fail
  refine Calls.mono (mark_tabs x.l1 x.A1 x.n1 x.c1 lo1 hi1 (k0) _ (by omega) HT.out (by omega) (r1.out.alloc _) (by simp; omega)) ?_
  rintro e w1 ⟨rfl, hc⟩
  replace r2 := Lib.hid ((r2.out.alloc _).chg hc (by omega))
  replace r3 := Lib.hid ((r3.out.alloc _).chg hc (by omega))
  replace r4 := Lib.hid ((r4.out.alloc _).chg hc (by omega))
  replace r5 := Lib.hid ((r5.out.alloc _).chg hc (by omega))
  replace r6 := Lib.hid ((r6.out.alloc _).chg hc (by omega))
  have hs1 : w.heap.size ≤ w1.heap.size := Nat.le_trans (by simp) hc.size
  replace KB := Lib.hid (KB.out.chg hc (by omega))
  replace HC := Lib.hid (Chg.trans (HC.out.alloc _) (hc.mono (by omega) (.inl (by omega))))
  clear hc
  have e0 := KB.out.at_ (j := 0) rfl
  have e1 := KB.out.at_ (j := 1) rfl
  have e2 := KB.out.at_ (j := 2) rfl
  have e3 := KB.out.at_ (j := 3) rfl
  have e4 := KB.out.at_ (j := 4) rfl
  have e5 := KB.out.at_ (j := 5) rfl
  have e6 := KB.out.at_ (j := 6) rfl
  have e7 := KB.out.at_ (j := 7) rfl
  go_wp2_with fail
  clear e0 e1 e2 e3 e4 e5 e6 e7
  refine Calls.mono (mark_packages x.l2 x.A2 x.n2 x.c2 lo2 hi2 (k0 + DTab.cnts x.l1) _ (by omega) HP.out (by omega) r2.out (by omega)) ?_
  rintro e w2 ⟨rfl, hc⟩
  replace r3 := Lib.hid (r3.out.chg hc (by omega))
  replace r4 := Lib.hid (r4.out.chg hc (by omega))
  replace r5 := Lib.hid (r5.out.chg hc (by omega))
  replace r6 := Lib.hid (r6.out.chg hc (by omega))
  have hs2 : w.heap.size ≤ w2.heap.size := Nat.le_trans hs1 hc.size
  replace KB := Lib.hid (KB.out.chg hc (by omega))
  replace HC := Lib.hid (Chg.trans HC.out (hc.mono (by omega) (.inl (by omega))))
  clear hc
  have e0 := KB.out.at_ (j := 0) rfl
  have e1 := KB.out.at_ (j := 1) rfl
  have e2 := KB.out.at_ (j := 2) rfl
  have e3 := KB.out.at_ (j := 3) rfl
  have e4 := KB.out.at_ (j := 4) rfl
  have e5 := KB.out.at_ (j := 5) rfl
  have e6 := KB.out.at_ (j := 6) rfl
  have e7 := KB.out.at_ (j := 7) rfl
  go_wp2_with fail
  clear e0 e1 e2 e3 e4 e5 e6 e7
  refine Calls.mono (mark_grant _ x.A3 x.n3 x.c3 lo3 hi3 (k0 + DTab.cnts x.l1 + DPackage.cnts x.l2) _ (by omega) (by omega) r3.out) ?_
  rintro e w3 ⟨rfl, _, hc, _⟩
  replace r4 := Lib.hid (r4.out.chg hc (by omega))
  replace r5 := Lib.hid (r5.out.chg hc (by omega))
  replace r6 := Lib.hid (r6.out.chg hc (by omega))
  have hs3 : w.heap.size ≤ w3.heap.size := Nat.le_trans hs2 hc.size
  replace KB := Lib.hid (KB.out.chg hc (by omega))
  replace HC := Lib.hid (Chg.trans HC.out (hc.mono (by omega) (.inl (by omega))))
  clear hc
  have e0 := KB.out.at_ (j := 0) rfl
  have e1 := KB.out.at_ (j := 1) rfl
  have e2 := KB.out.at_ (j := 2) rfl
  have e3 := KB.out.at_ (j := 3) rfl
  have e4 := KB.out.at_ (j := 4) rfl
  have e5 := KB.out.at_ (j := 5) rfl
  have e6 := KB.out.at_ (j := 6) rfl
  have e7 := KB.out.at_ (j := 7) rfl
  go_wp2_with fail
  clear e0 e1 e2 e3 e4 e5 e6 e7
  refine Calls.mono (mark_limit _ x.A4 x.n4 x.c4 lo4 hi4 (k0 + DTab.cnts x.l1 + DPackage.cnts x.l2 + x.n3 * 7) _ (by omega) (by omega) r4.out) ?_
  rintro e w4 ⟨rfl, _, hc, _⟩
  replace r5 := Lib.hid (r5.out.chg hc (by omega))
  replace r6 := Lib.hid (r6.out.chg hc (by omega))
  have hs4 : w.heap.size ≤ w4.heap.size := Nat.le_trans hs3 hc.size
  replace KB := Lib.hid (KB.out.chg hc (by omega))
  replace HC := Lib.hid (Chg.trans HC.out (hc.mono (by omega) (.inl (by omega))))
  clear hc
  have e0 := KB.out.at_ (j := 0) rfl
  have e1 := KB.out.at_ (j := 1) rfl
  have e2 := KB.out.at_ (j := 2) rfl
  have e3 := KB.out.at_ (j := 3) rfl
  have e4 := KB.out.at_ (j := 4) rfl
  have e5 := KB.out.at_ (j := 5) rfl
  have e6 := KB.out.at_ (j := 6) rfl
  have e7 := KB.out.at_ (j := 7) rfl
  go_wp2_with fail
  clear e0 e1 e2 e3 e4 e5 e6 e7
  refine Calls.mono (mark_rule _ x.A5 x.n5 x.c5 lo5 hi5 (k0 + DTab.cnts x.l1 + DPackage.cnts x.l2 + x.n3 * 7 + x.n4 * 4) _ (by omega) (by omega) r5.out) ?_
  rintro e w5 ⟨rfl, _, hc, _⟩
  replace r6 := Lib.hid (r6.out.chg hc (by omega))
  have hs5 : w.heap.size ≤ w5.heap.size := Nat.le_trans hs4 hc.size
  replace KB := Lib.hid (KB.out.chg hc (by omega))
  replace HC := Lib.hid (Chg.trans HC.out (hc.mono (by omega) (.inl (by omega))))
  clear hc
  have e0 := KB.out.at_ (j := 0) rfl
  have e1 := KB.out.at_ (j := 1) rfl
  have e2 := KB.out.at_ (j := 2) rfl
  have e3 := KB.out.at_ (j := 3) rfl
  have e4 := KB.out.at_ (j := 4) rfl
  have e5 := KB.out.at_ (j := 5) rfl
  have e6 := KB.out.at_ (j := 6) rfl
  have e7 := KB.out.at_ (j := 7) rfl
  go_wp2_with fail
  clear e0 e1 e2 e3 e4 e5 e6 e7
  refine Calls.mono (mark_stored _ x.A6 x.n6 x.c6 lo6 hi6 (k0 + DTab.cnts x.l1 + DPackage.cnts x.l2 + x.n3 * 7 + x.n4 * 4 + x.n5 * 8) _ (by omega) (by omega) r6.out) ?_
  rintro e w6 ⟨rfl, _, hc, _⟩
  have hs6 : w.heap.size ≤ w6.heap.size := Nat.le_trans hs5 hc.size
  replace KB := Lib.hid (KB.out.chg hc (by omega))
  replace HC := Lib.hid (Chg.trans HC.out (hc.mono (by omega) (.inl (by omega))))
  clear hc
  have e0 := KB.out.at_ (j := 0) rfl
  have e1 := KB.out.at_ (j := 1) rfl
  have e2 := KB.out.at_ (j := 2) rfl
  have e3 := KB.out.at_ (j := 3) rfl
  have e4 := KB.out.at_ (j := 4) rfl
  have e5 := KB.out.at_ (j := 5) rfl
  have e6 := KB.out.at_ (j := 6) rfl
  have e7 := KB.out.at_ (j := 7) rfl
  go_wp2_with fail
  go_ret
  exact ⟨congrArg (fun z : Int => Ending.returned (Value.int .i64 z)) (by simp only [DBrowser.cnt]; push_cast; omega), HC.out⟩

end Go.Proofs.YtjgcgipglmhgeaaGreat
