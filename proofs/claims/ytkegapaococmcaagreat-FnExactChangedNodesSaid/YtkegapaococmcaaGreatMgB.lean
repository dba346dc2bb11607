/- Merged: DTab, DTabT, DTabS, DTabE, DTabM, DPackage, DPackageT, DPackageS, DPackageE, DPackageM, DBrowser. -/
import Derived.Test.YtkegapaococmcaaGreatDeep
import Derived.Test.YtkegapaococmcaaGreatRTab
import Derived.StillTailTactics
import Derived.Deep.RegionHeld3
import Derived.Deep.DeepCutAuto
import Derived.Test.YtkegapaococmcaaGreatRPackage
import Derived.Test.YtkegapaococmcaaGreatTLimit
import Derived.Test.YtkegapaococmcaaGreatTStored
namespace Go.Proofs.YtkegapaococmcaaGreat
open Go Go.ChangeShapes Go.WideShapes Go.ChangeAt Go.RowKit Go.Lib
set_option linter.unusedVariables false
set_option linter.unusedSimpArgs false
set_option maxRecDepth 100000
set_option maxHeartbeats 4000000

/-- A Tab as it lies in memory. -/
structure DTab where
  s0 : TSite
  A1 : Option Addr
  n1 : Nat
  c1 : Nat
  l1 : List TNode
  A2 : Option Addr
  n2 : Nat
  c2 : Nat
  l2 : List TEdit
  A3 : Option Addr
  n3 : Nat
  c3 : Nat
  l3 : List Int
  p4 : Int
/-- A Tab as data. -/
structure MTab where
  s0 : TSite
  l1 : List TNode
  l2 : List TEdit
  l3 : List Int
  p4 : Int
def DTab.cells (x : DTab) : List Value := [.int .i64 x.s0.f0, .int .i64 x.s0.f1, .slice x.A1 x.n1 x.c1, .slice x.A2 x.n2 x.c2, .slice x.A3 x.n3 x.c3, .int .i64 x.p4]
theorem DTab.len (x : DTab) : x.cells.length = 6 := rfl
def DTab.dat (x : DTab) : MTab := ⟨x.s0, x.l1, x.l2, x.l3, x.p4⟩
def MTab.ok (x : MTab) : Prop := TSite.fit x.s0 ∧ cNodeOk x.l1 ∧ cEditOk x.l2 ∧ I64s x.l3 ∧ (Lit.int .i64 x.p4).wf = true
/-- How many elements it leads to. -/
def MTab.sz (x : MTab) : Nat := x.l1.length + x.l2.length + x.l3.length
/-- How many numbers marking it takes. -/
def DTab.cnt (x : DTab) : Nat := (x.n1 * 5) + (x.n2 * 6) + (x.n3) + 3
def DTab.cnts (l : List DTab) : Nat := (l.map DTab.cnt).sum
theorem DTab.cnts_one (l : List DTab) (k : Nat) (x : DTab) (h : l[k]? = some x) : DTab.cnts (l.take (k + 1)) = DTab.cnts (l.take k) + x.cnt := by
  rw [DTab.cnts, List.take_add_one, h]; simp [DTab.cnts]
theorem DTab.cnts_le (l : List DTab) (k : Nat) : DTab.cnts (l.take k) ≤ DTab.cnts l := by
  conv => rhs; rw [← List.take_append_drop k l]
  simp only [DTab.cnts, List.map_append, List.sum_append]
  omega
def MTab.szs (l : List MTab) : Nat := (l.map MTab.sz).sum
theorem MTab.szs_one (l : List MTab) (k : Nat) (x : MTab) (h : l[k]? = some x) : MTab.szs (l.take (k + 1)) = MTab.szs (l.take k) + x.sz := by
  rw [MTab.szs, List.take_add_one, h]; simp [MTab.szs]
theorem MTab.szs_le (l : List MTab) (k : Nat) : MTab.szs (l.take k) ≤ MTab.szs l := by
  conv => rhs; rw [← List.take_append_drop k l]
  simp only [MTab.szs, List.map_append, List.sum_append]
  omega
theorem MTab.szs_mem (l : List MTab) (k : Nat) (x : MTab) (h : l[k]? = some x) : x.sz ≤ MTab.szs l := by
  have h1 := MTab.szs_one l k x h
  have h2 := MTab.szs_le l (k + 1)
  omega
/-- Its slices read so, in blocks from lo on and below hi. -/
def DTab.rd (w : World) (lo hi : Nat) (x : DTab) : Prop := (x.n1 ≤ 9223372036854775807 ∧ Rd w lo hi 5 x.A1 x.n1 (cNode x.l1)) ∧ (x.n2 ≤ 9223372036854775807 ∧ Rd w lo hi 6 x.A2 x.n2 (cEdit x.l2)) ∧ (x.n3 ≤ 9223372036854775807 ∧ Rd w lo hi 1 x.A3 x.n3 (i64s x.l3))
theorem DTab.rd_keep {w w' : World} {lo hi : Nat} {x : DTab} (h : x.rd w lo hi) (hk : ∀ b, lo ≤ b → b < hi → b < w.heap.size → w'.heap[b]? = w.heap[b]?) : x.rd w' lo hi := by
  obtain ⟨h1, h2, h3⟩ := h
  exact ⟨⟨h1.1, h1.2.keep hk⟩, ⟨h2.1, h2.2.keep hk⟩, ⟨h3.1, h3.2.keep hk⟩⟩
theorem DTab.rd_mono {w : World} {lo hi lo' hi' : Nat} {x : DTab} (h : x.rd w lo hi) (p1 : lo' ≤ lo) (p2 : hi ≤ hi') : x.rd w lo' hi' := by
  obtain ⟨h1, h2, h3⟩ := h
  exact ⟨⟨h1.1, h1.2.mono p1 p2⟩, ⟨h2.1, h2.2.mono p1 p2⟩, ⟨h3.1, h3.2.mono p1 p2⟩⟩
theorem DTab.rd_old {w : World} {lo hi : Nat} {x : DTab} (h : x.rd w lo hi) : x.rd w 0 w.heap.size := by
  obtain ⟨h1, h2, h3⟩ := h
  exact ⟨⟨h1.1, h1.2.old (by decide)⟩, ⟨h2.1, h2.2.old (by decide)⟩, ⟨h3.1, h3.2.old (by decide)⟩⟩
theorem DTab.rd_lens {w : World} {lo hi : Nat} {x : DTab} (h : x.rd w lo hi) : x.l1.length = x.n1 ∧ x.l2.length = x.n2 ∧ x.l3.length = x.n3 := by
  obtain ⟨h1, h2, h3⟩ := h
  exact ⟨(rd_len TNode.len h1.2 (by decide)), (rd_len TEdit.len h2.2 (by decide)), (by have q := h3.2.1; simpa [i64s] using q)⟩
theorem DTab.rd_sz {w : World} {lo hi : Nat} {x : DTab} (h : x.rd w lo hi) : x.dat.sz = x.n1 + x.n2 + x.n3 := by
  obtain ⟨h1, h2, h3⟩ := DTab.rd_lens h
  simp only [MTab.sz, DTab.dat]
  omega
/-- Its slices are the maker's own, each in blocks of its own from lo on and below hi. -/
def DTab.fr (w : World) (lo hi : Nat) (x : DTab) : Prop := ∃ (lo1 hi1 lo2 hi2 lo3 hi3 : Nat), (x.n1 ≤ 9223372036854775807 ∧ Fr w lo1 hi1 87 5 x.A1 x.n1 x.c1 (cNode x.l1)) ∧ (x.n2 ≤ 9223372036854775807 ∧ Fr w lo2 hi2 71 6 x.A2 x.n2 x.c2 (cEdit x.l2)) ∧ (x.n3 ≤ 9223372036854775807 ∧ Fr w lo3 hi3 3 1 x.A3 x.n3 x.c3 (i64s x.l3)) ∧ SepTab lo hi lo1 hi1 lo2 hi2 lo3 hi3
theorem DTab.fr_keep {w w' : World} {lo hi : Nat} {x : DTab} (h : x.fr w lo hi) (hk : ∀ b, lo ≤ b → b < hi → b < w.heap.size → w'.heap[b]? = w.heap[b]?) : x.fr w' lo hi := by
  obtain ⟨lo1, hi1, lo2, hi2, lo3, hi3, h1, h2, h3, hs⟩ := h
  have hd := SepTab_bd hs
  exact ⟨lo1, hi1, lo2, hi2, lo3, hi3, ⟨h1.1, h1.2.keep fun b h1 h2 h3 => hk b (by omega) (by omega) h3⟩, ⟨h2.1, h2.2.keep fun b h1 h2 h3 => hk b (by omega) (by omega) h3⟩, ⟨h3.1, h3.2.keep fun b h1 h2 h3 => hk b (by omega) (by omega) h3⟩, hs⟩
theorem DTab.fr_mono {w : World} {lo hi lo' hi' : Nat} {x : DTab} (h : x.fr w lo hi) (h1 : lo' ≤ lo) (h2 : hi ≤ hi') : x.fr w lo' hi' := by
  obtain ⟨lo1, hi1, lo2, hi2, lo3, hi3, h1, h2, h3, hs⟩ := h
  refine ⟨lo1, hi1, lo2, hi2, lo3, hi3, h1, h2, h3, ?_⟩
  unfold SepTab at hs ⊢
  omega
theorem DTab.fr_rd {w : World} {lo hi : Nat} {x : DTab} (h : x.fr w lo hi) : x.rd w lo hi := by
  obtain ⟨lo1, hi1, lo2, hi2, lo3, hi3, h1, h2, h3, hs⟩ := h
  have hd := SepTab_bd hs
  exact ⟨⟨h1.1, h1.2.rd.mono (by omega) (by omega)⟩, ⟨h2.1, h2.2.rd.mono (by omega) (by omega)⟩, ⟨h3.1, h3.2.rd.mono (by omega) (by omega)⟩⟩
def DTab.caps (x : DTab) : Prop := x.n1 ≤ x.c1 ∧ x.n2 ≤ x.c2 ∧ x.n3 ≤ x.c3
theorem DTab.fr_caps {w : World} {lo hi : Nat} {x : DTab} (h : x.fr w lo hi) : x.caps := by
  obtain ⟨lo1, hi1, lo2, hi2, lo3, hi3, h1, h2, h3, hs⟩ := h
  exact ⟨h1.2.cap, h2.2.cap, h3.2.cap⟩
def DTab.frl (w : World) : Nat → Nat → List DTab → Prop
  | lo, hi, [] => lo ≤ hi
  | lo, hi, x :: xs => ∃ m, lo ≤ m ∧ m ≤ hi ∧ x.fr w lo m ∧ DTab.frl w m hi xs
theorem DTab.frl_le {w : World} : ∀ {xs : List DTab} {lo hi : Nat}, DTab.frl w lo hi xs → lo ≤ hi
  | [], _, _, h => h
  | x :: xs, lo, hi, ⟨m, h1, h2, _, _⟩ => Nat.le_trans h1 h2
theorem DTab.frl_keep {w w' : World} : ∀ {xs : List DTab} {lo hi : Nat}, DTab.frl w lo hi xs → (∀ b, lo ≤ b → b < hi → b < w.heap.size → w'.heap[b]? = w.heap[b]?) → DTab.frl w' lo hi xs
  | [], _, _, h, _ => h
  | x :: xs, lo, hi, ⟨m, h1, h2, h3, h4⟩, hk => ⟨m, h1, h2, DTab.fr_keep h3 fun b p q r => hk b p (by omega) r, DTab.frl_keep h4 fun b p q r => hk b (by omega) q r⟩
theorem DTab.frl_up {w : World} : ∀ {xs : List DTab} {lo hi hi' : Nat}, DTab.frl w lo hi xs → hi ≤ hi' → DTab.frl w lo hi' xs
  | [], _, _, _, h, h' => Nat.le_trans h h'
  | x :: xs, lo, hi, hi', ⟨m, h1, h2, h3, h4⟩, h' => ⟨m, h1, Nat.le_trans h2 h', h3, DTab.frl_up h4 h'⟩
theorem DTab.frl_snoc {w : World} {y : DTab} : ∀ {xs : List DTab} {lo m m' hi : Nat}, DTab.frl w lo m xs → y.fr w m' hi → m ≤ m' → m' ≤ hi → DTab.frl w lo hi (xs ++ [y])
  | [], lo, m, m', hi, h, hy, h1, h2 => by
    have h : lo ≤ m := h
    exact ⟨hi, by omega, Nat.le_refl _, DTab.fr_mono hy (by omega) (Nat.le_refl _), Nat.le_refl _⟩
  | x :: xs, lo, m, m', hi, ⟨q, h1, h2, h3, h4⟩, hy, h5, h6 => ⟨q, h1, by omega, h3, DTab.frl_snoc h4 hy h5 h6⟩
theorem DTab.frl_rd {w : World} : ∀ {xs : List DTab} {lo hi : Nat}, DTab.frl w lo hi xs → ∀ x ∈ xs, x.rd w lo hi
  | [], _, _, _, x, hx => by cases hx
  | y :: xs, lo, hi, ⟨m, h1, h2, h3, h4⟩, x, hx => by
    rcases List.mem_cons.1 hx with rfl | hx
    · exact DTab.rd_mono (DTab.fr_rd h3) (Nat.le_refl _) h2
    · exact DTab.rd_mono (DTab.frl_rd h4 x hx) h1 (Nat.le_refl _)
theorem DTab.frl_caps {w : World} : ∀ {xs : List DTab} {lo hi : Nat}, DTab.frl w lo hi xs → ∀ x ∈ xs, x.caps
  | [], _, _, _, x, hx => by cases hx
  | y :: xs, lo, hi, ⟨m, h1, h2, h3, h4⟩, x, hx => by
    rcases List.mem_cons.1 hx with rfl | hx
    · exact DTab.fr_caps h3
    · exact DTab.frl_caps h4 x hx
theorem DTab.frl_drop {w : World} : ∀ {xs : List DTab} {lo hi k : Nat} {x : DTab}, DTab.frl w lo hi (xs.drop k) → xs[k]? = some x → ∃ m, lo ≤ m ∧ m ≤ hi ∧ x.fr w lo m ∧ DTab.frl w m hi (xs.drop (k + 1)) := by
  intro xs lo hi k x h hx
  have hk : k < xs.length := (List.getElem?_eq_some_iff.1 hx).1
  rw [List.drop_eq_getElem_cons hk, (List.getElem?_eq_some_iff.1 hx).2] at h
  exact h
/-- A slice of them that reads so. -/
def RdTab (w : World) (lo hi : Nat) (A : Option Addr) (n : Nat) (xs : List DTab) : Prop := n ≤ 9223372036854775807 ∧ Rd w lo hi 6 A n (xs.flatMap DTab.cells) ∧ ∀ x ∈ xs, x.rd w lo hi
/-- A slice of them that is the maker's own. -/
def FrTab (w : World) (lo hi : Nat) (A : Option Addr) (n c : Nat) (xs : List DTab) : Prop := n ≤ 9223372036854775807 ∧ ∃ m, lo ≤ m ∧ m ≤ hi ∧ Fr w lo m 85 6 A n c (xs.flatMap DTab.cells) ∧ DTab.frl w m hi xs
section
variable {w w' : World} {lo hi lo' hi' n c : Nat} {A : Option Addr} {xs : List DTab}
theorem RdTab.keep (h : RdTab w lo hi A n xs) (hk : ∀ b, lo ≤ b → b < hi → b < w.heap.size → w'.heap[b]? = w.heap[b]?) : RdTab w' lo hi A n xs := ⟨h.1, h.2.1.keep hk, fun x hx => DTab.rd_keep (h.2.2 x hx) hk⟩
theorem RdTab.new (h : RdTab w lo hi A n xs) (hb : Below w.heap.size w w') : RdTab w' lo hi A n xs := h.keep fun b _ _ h3 => hb.block b h3
theorem RdTab.mono (h : RdTab w lo hi A n xs) (h1 : lo' ≤ lo) (h2 : hi ≤ hi') : RdTab w lo' hi' A n xs := ⟨h.1, h.2.1.mono h1 h2, fun x hx => DTab.rd_mono (h.2.2 x hx) h1 h2⟩
theorem RdTab.old (h : RdTab w lo hi A n xs) : RdTab w 0 w.heap.size A n xs := ⟨h.1, h.2.1.old (by decide), fun x hx => DTab.rd_old (h.2.2 x hx)⟩
theorem RdTab.len (h : RdTab w lo hi A n xs) : xs.length = n := rd_len DTab.len h.2.1 (by decide)
theorem RdTab.at_ (h : RdTab w lo hi A n xs) {k : Nat} {x : DTab} (hx : xs[k]? = some x) : x.rd w lo hi := h.2.2 x (List.mem_of_getElem? hx)
theorem FrTab.keep (h : FrTab w lo hi A n c xs) (hk : ∀ b, lo ≤ b → b < hi → b < w.heap.size → w'.heap[b]? = w.heap[b]?) : FrTab w' lo hi A n c xs := by
  obtain ⟨h0, m, h1, h2, h3, h4⟩ := h
  exact ⟨h0, m, h1, h2, h3.keep fun b p q r => hk b p (by omega) r, DTab.frl_keep h4 fun b p q r => hk b (by omega) q r⟩
theorem FrTab.new (h : FrTab w lo hi A n c xs) (hb : Below w.heap.size w w') : FrTab w' lo hi A n c xs := h.keep fun b _ _ h3 => hb.block b h3
theorem FrTab.alloc (h : FrTab w lo hi A n c xs) (o : Obj) : FrTab (w.alloc o) lo hi A n c xs := h.keep fun b _ _ h3 => Below.heap_alloc w o b h3
theorem FrTab.put (h : FrTab w lo hi A n c xs) {p : Addr} (hp : p.block < lo ∨ hi ≤ p.block) (u : Value) : FrTab (w.setCell p u) lo hi A n c xs :=
  h.keep fun b h1 h2 _ => Below.heap_setCell w p u b (by rintro rfl; omega)
theorem FrTab.chg (h : FrTab w lo hi A n c xs) (hc : Chg lo' hi' w w') (hd : hi ≤ lo' ∨ hi' ≤ lo ∨ hi' ≤ lo') : FrTab w' lo hi A n c xs := h.keep fun b h1 h2 h3 => hc.block b h3 (by omega)
theorem FrTab.mono (h : FrTab w lo hi A n c xs) (h1 : lo' ≤ lo) (h2 : hi ≤ hi') : FrTab w lo' hi' A n c xs := by
  obtain ⟨h0, m, p1, p2, h3, h4⟩ := h
  exact ⟨h0, m, by omega, by omega, h3.mono h1 (Nat.le_refl _), DTab.frl_up h4 h2⟩
theorem FrTab.rd (h : FrTab w lo hi A n c xs) : RdTab w lo hi A n xs := by
  obtain ⟨h0, m, h1, h2, h3, h4⟩ := h
  exact ⟨h0, h3.rd.mono (Nat.le_refl _) h2, fun x hx => DTab.rd_mono (DTab.frl_rd h4 x hx) h1 (Nat.le_refl _)⟩
end
/-- A call that answers a new slice of these. -/
def MakesTabs (xs : List DTab) (n : Nat) (w : World) (e : Ending) (w' : World) : Prop :=
  ∃ (A : Option Addr) (c : Nat) (ys : List DTab), e = .returned (.slice A n c) ∧ ys.map DTab.dat = xs.map DTab.dat ∧ FrTab w' w.heap.size w'.heap.size A n c ys ∧ Below w.heap.size w w'

theorem DTab.cnts_sz {w : World} {lo hi : Nat} : ∀ {xs : List DTab}, (∀ x ∈ xs, x.rd w lo hi) → DTab.cnts xs ≤ 8 * (xs.length + MTab.szs (xs.map DTab.dat))
  | [], _ => by simp [DTab.cnts]
  | x :: xs, h => by
    have ih := DTab.cnts_sz (xs := xs) (fun y hy => h y (List.mem_cons_of_mem _ hy))
    have hx := DTab.rd_sz (h x (List.mem_cons_self ..))
    have hc : x.cnt ≤ 8 * (1 + x.dat.sz) := by rw [hx]; simp only [DTab.cnt]; omega
    simp only [DTab.cnts, MTab.szs, List.map_cons, List.sum_cons, List.length_cons] at ih ⊢
    omega

section
variable {H : Type} {enc : TypeId × Value → H}
theorem read_tab {W : World} {fuel : Nat} {cs : List Value} {y : DataW H × List MemPlace} (hq : DataW.trod enc Tryz.prog W 0 (fun _ => true) true fuel 147 cs = some y) (hlt : ∀ x ∈ y.2, x.block < W.heap.size) :
    ∃ x : DTab, cs = x.cells ∧ x.rd W 0 W.heap.size ∧ x.dat.ok := by
  obtain ⟨ys, n, _, hx, hlen, hyl, hf⟩ := DataW.trod_struct Tryz.underlying147 hq
  have hx2 := congrArg Prod.snd hx
  simp only at hx2
  rw [hx2] at hlt
  have hlen : cs.length = 6 := hlen.trans (by kernel_rfl)
  have hyl : ys.length = 5 := hyl
  have hlt' : ∀ (i : Nat) (y : DataW H × List MemPlace), ys[i]? = some y → ∀ x ∈ y.2, x.block < W.heap.size := fun i y hy x hx => hlt x (List.mem_flatMap.2 ⟨y, List.mem_of_getElem? hy, hx⟩)
  match cs, hlen with
  | [z0, z1, z2, z3, z4, z5], _ =>
    have h0 := hf 0 _ rfl
    have h0' : DataW.trod enc Tryz.prog W 0 (fun _ => true) true n 62 [z0, z1] = some (ys[0]'(by omega)) := by
      refine Eq.trans ?_ (h0.trans (List.getElem?_eq_getElem (by omega)))
      rfl
    obtain ⟨x0, e0, g0⟩ := read_site h0'
    simp only [TSite.cells, List.cons.injEq, and_true] at e0
    have h1 := hf 1 _ rfl
    have h1' : DataW.trod enc Tryz.prog W 0 (fun _ => true) true n 144 [z2] = some (ys[1]'(by omega)) := by
      refine Eq.trans ?_ (h1.trans (List.getElem?_eq_getElem (by omega)))
      rfl
    obtain ⟨A1, n1, c1, l1, e1, m1, r1, k1⟩ := rows_trod (c := TNode.cells) (fit := TNode.fit) (d := (ys[1]'(by omega)).1) (p := (ys[1]'(by omega)).2) Tryz.underlying144 (by kernel_rfl) TNode.len (by decide) (fun h => read_node h) h1' (hlt' 1 _ (List.getElem?_eq_getElem (by omega)))
    have h2 := hf 2 _ rfl
    have h2' : DataW.trod enc Tryz.prog W 0 (fun _ => true) true n 145 [z3] = some (ys[2]'(by omega)) := by
      refine Eq.trans ?_ (h2.trans (List.getElem?_eq_getElem (by omega)))
      rfl
    obtain ⟨A2, n2, c2, l2, e2, m2, r2, k2⟩ := rows_trod (c := TEdit.cells) (fit := TEdit.fit) (d := (ys[2]'(by omega)).1) (p := (ys[2]'(by omega)).2) Tryz.underlying145 (by kernel_rfl) TEdit.len (by decide) (fun h => read_edit h) h2' (hlt' 2 _ (List.getElem?_eq_getElem (by omega)))
    have h3 := hf 3 _ rfl
    have h3' : DataW.trod enc Tryz.prog W 0 (fun _ => true) true n 31 [z4] = some (ys[3]'(by omega)) := by
      refine Eq.trans ?_ (h3.trans (List.getElem?_eq_getElem (by omega)))
      rfl
    obtain ⟨A3, n3, c3, l3, e3, m3, r3, k3⟩ := ints_trod (d := (ys[3]'(by omega)).1) (p := (ys[3]'(by omega)).2) Tryz.underlying31 Tryz.underlying3 (by kernel_rfl) h3' (hlt' 3 _ (List.getElem?_eq_getElem (by omega)))
    have h4 := hf 4 _ rfl
    have h4' : DataW.trod enc Tryz.prog W 0 (fun _ => true) true n 3 [z5] = some (ys[4]'(by omega)) := by
      refine Eq.trans ?_ (h4.trans (List.getElem?_eq_getElem (by omega)))
      rfl
    obtain ⟨x4, e4, _, w4⟩ := DataW.trod_int Tryz.underlying3 h4'
    refine ⟨⟨x0, A1, n1, c1, l1, A2, n2, c2, l2, A3, n3, c3, l3, x4⟩, ?_, ⟨⟨Nat.le_trans m1 (by decide), r1⟩, ⟨Nat.le_trans m2 (by decide), r2⟩, ⟨Nat.le_trans m3 (by decide), r3⟩⟩, ⟨g0, k1, k2, k3, w4⟩⟩
    simp only [List.cons.injEq, and_true] at e0 e1 e2 e3 e4
    simp_all [DTab.cells]
theorem trod_tabs {W : World} {fuel : Nat} {cs : List Value} {d : DataW H} {p : List MemPlace} (hf : DataW.trod enc Tryz.prog W 0 (fun _ => true) true fuel 22 cs = some (d, p)) (hlt : ∀ x ∈ p, x.block < W.heap.size) :
    ∃ (A : Option Addr) (n cap : Nat) (l : List DTab), cs = [.slice A n cap] ∧ RdTab W 0 W.heap.size A n l ∧ Hid (∀ x ∈ l, x.dat.ok) := by
  obtain ⟨A, n, cap, l, h1, h2, h3, h4⟩ := rows_trod_at (c := DTab.cells) (fit := fun x => x.rd W 0 W.heap.size ∧ x.dat.ok) Tryz.underlying22 (by kernel_rfl) DTab.len (by decide) (fun h hl => read_tab h hl) hf hlt
  exact ⟨A, n, cap, l, h1, ⟨Nat.le_trans h2 (by decide), h3, fun x hx => (h4.out x hx).1⟩, Lib.hid fun x hx => (h4.out x hx).2⟩
end

end Go.Proofs.YtkegapaococmcaaGreat
namespace Go.Proofs.YtkegapaococmcaaGreat
open Go Go.ChangeShapes Go.WideShapes Go.ChangeAt Go.RowKit Go.Lib
set_option linter.unusedVariables false
set_option linter.unusedSimpArgs false
set_option maxRecDepth 100000
set_option maxHeartbeats 4000000

theorem to_tabs (xs : List DTab) (A : Option Addr) (n c lo hi : Nat) (w : World) (hn : n ≤ 1048576) (hz : ∀ x ∈ xs, x.dat.sz ≤ 1048576) (hr : RdTab w lo hi A n xs) :
    Calls Tryz.prog 44 #[.slice A n c] w (MakesTabs xs n w) := by
  have hmk := make_rows (P := Tryz.prog) 33 85 (.agg #[.int .i64 0, .int .i64 0, .slice none 0 0, .slice none 0 0, .slice none 0 0, .int .i64 0]) 6 96 Tryz.underlying33 (by kernel_rfl) n (by omega) (by omega)
  have HL := Lib.hid hr.len
  have HR := Lib.hid hr
  have HZS := Lib.hid hz
  clear hr hz
  go_enter Tryz.func44, Tryz.ntmps44
  go_wp2_with fail
  go_loopw [4] (fun i wr => ∃ (k : Nat) (ys : List DTab), k ≤ n ∧ i = .int .i64 k ∧ Hid (ys.map DTab.dat = (xs.take k).map DTab.dat) ∧ Pre wr w.heap.size 85 (n * 6) (ys.flatMap DTab.cells) (k * 6) ∧ Hid (DTab.frl wr (w.heap.size + 1) wr.heap.size ys) ∧ Below w.heap.size w wr) (fun i _ => n - (intOf i).toNat)
  case atStart => exact ⟨0, [], Nat.zero_le _, rfl, rfl, (pre_start (size_madeCells _ _)).at_ (by omega), Lib.hid (show w.heap.size + 1 ≤ _ by simp), (Below.refl _ _).alloc (Nat.le_refl _) _⟩
  case round =>
    obtain ⟨k, ys, hk, rfl, hd, hrow, hfl, hb⟩ := hrel
    have HB := Lib.hid hb
    have HYL : ys.length = k := by have := congrArg List.length hd.out; simp only [List.length_map, List.length_take] at this; have := HL.out; omega
    by_cases hlt : k < n
    · obtain ⟨b, off, x, rfl, _, _, hzz, hc⟩ := rd_elem DTab.len (HR.out.new hb).2.1 HL.out hlt
      have HX := Lib.hid ((HR.out.new hb).at_ hzz)
      have c0 : wr.cell? ⟨b, off + k * 6, none⟩ = some (.int .i64 x.s0.f0) := hc 0 _ rfl
      have c1 : wr.cell? ⟨b, off + k * 6 + 1, none⟩ = some (.int .i64 x.s0.f1) := hc 1 _ rfl
      have c2 : wr.cell? ⟨b, off + k * 6 + 2, none⟩ = some (.slice x.A1 x.n1 x.c1) := hc 2 _ rfl
      have c3 : wr.cell? ⟨b, off + k * 6 + 3, none⟩ = some (.slice x.A2 x.n2 x.c2) := hc 3 _ rfl
      have c4 : wr.cell? ⟨b, off + k * 6 + 4, none⟩ = some (.slice x.A3 x.n3 x.c3) := hc 4 _ rfl
      have c5 : wr.cell? ⟨b, off + k * 6 + 5, none⟩ = some (.int .i64 x.p4) := hc 5 _ rfl
      have HZ := Lib.hid hzz
      have HW := Lib.hid hrow
      have hxz := HZS.out x (List.mem_of_getElem? hzz)
      rw [DTab.rd_sz HX.out] at hxz
      clear hrow hb hzz hc
      go_wp2_with fail
      refine (to_tab x.s0 x.l1 x.A1 x.n1 x.c1 _ _ x.l2 x.A2 x.n2 x.c2 _ _ x.l3 x.A3 x.n3 x.c3 _ _ x.p4 _ (by omega) HX.out.1.2 (by omega) HX.out.2.1.2 (by omega) HX.out.2.2.2).mono ?_
      rintro e w1 ⟨B1, B2, B3, d1, lo1, hi1, d2, lo2, hi2, d3, lo3, hi3, rfl, F1, F2, F3, hsep, hb1⟩
      have HYN : ∃ y : DTab, y = ⟨x.s0, B1, x.n1, d1, x.l1, B2, x.n2, d2, x.l2, B3, x.n3, d3, x.l3, x.p4⟩ := ⟨_, rfl⟩
      obtain ⟨y, hy⟩ := HYN
      have HYF : Hid (y.fr w1 wr.heap.size w1.heap.size) := by
        subst hy
        exact Lib.hid ⟨lo1, hi1, lo2, hi2, lo3, hi3, ⟨by dsimp only; omega, F1⟩, ⟨by dsimp only; omega, F2⟩, ⟨by dsimp only; omega, F3⟩, hsep.out⟩
      have HYD : Hid (y.dat = x.dat) := by subst hy; exact Lib.hid rfl
      have HYC : Hid (y.cells = [.int .i64 x.s0.f0, .int .i64 x.s0.f1, .slice B1 x.n1 d1, .slice B2 x.n2 d2, .slice B3 x.n3 d3, .int .i64 x.p4]) := by subst hy; exact Lib.hid rfl
      clear hy hsep F1 F2 F3
      have HF1 := Lib.hid (DTab.frl_keep hfl.out (fun b _ h2 h3 => hb1.block b h3))
      have HW1 := Lib.hid (HW.out.new hb1)
      have HB1 := Lib.hid (below_trans HB.out hb1 (Nat.le_refl _))
      have hsz1 := hb1.size
      have hgl := HW.out.lt
      have HW2 := Lib.hid (show Pre w1 w.heap.size 85 (n * 6) ((ys ++ [y]).flatMap DTab.cells) (k * 6) by
        rw [List.flatMap_append]
        exact HW1.out.more (by rw [flat_len DTab.len, HYL]))
      have HG : Hid (∀ (j : Nat) (u : Value), y.cells[j]? = some u → ((ys ++ [y]).flatMap DTab.cells)[k * 6 + j]? = some u) := Lib.hid fun j u hu => flat_get DTab.len (ys ++ [y]) k j y u (by rw [List.getElem?_append_right (by omega), HYL]; simp) hu
      rw [HYC.out] at HG
      clear HW HW1
      obtain ⟨q0, d0_⟩ := HW2.out.cell (j := k * 6) (by omega)
      have g0_ := HW2.out.frozen (k * 6)
      obtain ⟨q1, d1_⟩ := HW2.out.cell (j := k * 6 + 1) (by omega)
      have g1_ := HW2.out.frozen (k * 6 + 1)
      obtain ⟨q2, d2_⟩ := HW2.out.cell (j := k * 6 + 2) (by omega)
      have g2_ := HW2.out.frozen (k * 6 + 2)
      obtain ⟨q3, d3_⟩ := HW2.out.cell (j := k * 6 + 3) (by omega)
      have g3_ := HW2.out.frozen (k * 6 + 3)
      obtain ⟨q4, d4_⟩ := HW2.out.cell (j := k * 6 + 4) (by omega)
      have g4_ := HW2.out.frozen (k * 6 + 4)
      obtain ⟨q5, d5_⟩ := HW2.out.cell (j := k * 6 + 5) (by omega)
      have g5_ := HW2.out.frozen (k * 6 + 5)
      clear hb1 c0 c1 c2 c3 c4 c5
      go_wp2_with fail
      go_roundw
      case rel =>
        refine ⟨k + 1, ys ++ [y], by omega, by go_num, Lib.hid (map_take_one hd.out HZ.out HYD.out), ?_, ?_, ?_⟩
        · exact (((((((HW2.out.step (HG.out 0 _ rfl)).step (HG.out 1 _ rfl)).step (HG.out 2 _ rfl)).step (HG.out 3 _ rfl)).step (HG.out 4 _ rfl)).step (HG.out 5 _ rfl))).at_ (by omega)
        · refine Lib.hid (DTab.frl_up (DTab.frl_keep (DTab.frl_snoc HF1.out HYF.out (Nat.le_refl _) hsz1) fun b h1 _ _ => ?_) (by simp [World.setCell]))
          have h2 : b ≠ w.heap.size := by omega
          exact (Below.heap_setCell _ _ _ _ h2).trans ((Below.heap_setCell _ _ _ _ h2).trans ((Below.heap_setCell _ _ _ _ h2).trans ((Below.heap_setCell _ _ _ _ h2).trans ((Below.heap_setCell _ _ _ _ h2).trans ((Below.heap_setCell _ _ _ _ h2).trans (rfl))))))
        · exact ((((((HB1.out.setCell (Nat.le_refl _) _).setCell (Nat.le_refl _) _).setCell (Nat.le_refl _) _).setCell (Nat.le_refl _) _).setCell (Nat.le_refl _) _).setCell (Nat.le_refl _) _)
      case measure => simp [intOf]; omega
    · obtain rfl : k = n := by omega
      have HW := Lib.hid hrow
      have hsz1 := HB.out.size
      have hgl := hrow.lt
      clear hrow hb
      go_wp2_with fail
      go_ret
      exact ⟨_, _, ys, rfl, by rw [hd.out, List.take_of_length_le (by have := HL.out; omega)], ⟨by omega, w.heap.size + 1, by omega, by omega, HW.out.fr (Nat.le_refl _) (by omega) (by unfold maxLen; omega) (by rw [flat_len DTab.len, HYL]), hfl.out⟩, HB.out⟩

end Go.Proofs.YtkegapaococmcaaGreat
namespace Go.Proofs.YtkegapaococmcaaGreat
open Go Go.ChangeShapes Go.WideShapes Go.ChangeAt Go.RowKit Go.Lib
set_option linter.unusedVariables false
set_option linter.unusedSimpArgs false
set_option maxRecDepth 100000
set_option maxHeartbeats 4000000

theorem sz_tabs (xs : List DTab) (A : Option Addr) (n c lo hi : Nat) (left : Int) (w : World) (hr : RdTab w lo hi A n xs) (h : ((n + MTab.szs (xs.map DTab.dat) : Nat) : Int) ≤ left) (hl : left ≤ 1048576) :
    Calls Tryz.prog 35 #[.slice A n c, .int .i64 left] w (Says (.int .i64 (left - ((n + MTab.szs (xs.map DTab.dat) : Nat) : Int))) w) := by
  have HL := Lib.hid hr.len
  have hn := hr.1
  have HR := Lib.hid hr
  clear hr
  obtain ⟨T, hT⟩ : ∃ T, Hid (MTab.szs (xs.map DTab.dat) = T) := ⟨_, Lib.hid rfl⟩
  rw [hT.out] at h ⊢
  have hd0 : decide (left - (n : Int) < 0) = false := by simp; omega
  go_enter Tryz.func35, Tryz.ntmps35
  go_wp2_with fail
  go_loopw [1, 5] (fun q i wr => ∃ (k S : Nat), k ≤ n ∧ i = .int .i64 k ∧ q = .int .i64 (left - (n : Int) - (S : Int)) ∧ Hid (S = MTab.szs ((xs.map DTab.dat).take k)) ∧ Hid ((n : Int) + (S : Int) ≤ left) ∧ Below w.heap.size w wr) (fun _ i _ => n - (intOf i).toNat)
  case atStart => exact ⟨0, 0, Nat.zero_le _, rfl, by simp, Lib.hid rfl, Lib.hid (by simp at hd0 ⊢; omega), Below.refl _ _⟩
  case round =>
    obtain ⟨k, S, hk, rfl, rfl, hS, hSl, hb⟩ := hrel
    have HB := Lib.hid hb
    by_cases hlt : k < n
    · obtain ⟨b, off, x, rfl, _, _, hzz, hc⟩ := rd_elem DTab.len (HR.out.new hb).2.1 HL.out hlt
      have HX := Lib.hid ((HR.out.new hb).at_ hzz)
      have HT1 : Hid (S + (x.n1 + x.n2 + x.n3) = MTab.szs ((xs.map DTab.dat).take (k + 1))) := Lib.hid (by
        rw [MTab.szs_one (xs.map DTab.dat) k x.dat (by rw [List.getElem?_map, hzz]; rfl), ← hS.out, DTab.rd_sz HX.out])
      have HT2 : Hid (S + (x.n1 + x.n2 + x.n3) ≤ T) := Lib.hid (by rw [HT1.out, ← hT.out]; exact MTab.szs_le _ _)
      have c0 : wr.cell? ⟨b, off + k * 6, none⟩ = some (.int .i64 x.s0.f0) := hc 0 _ rfl
      have c1 : wr.cell? ⟨b, off + k * 6 + 1, none⟩ = some (.int .i64 x.s0.f1) := hc 1 _ rfl
      have c2 : wr.cell? ⟨b, off + k * 6 + 2, none⟩ = some (.slice x.A1 x.n1 x.c1) := hc 2 _ rfl
      have c3 : wr.cell? ⟨b, off + k * 6 + 3, none⟩ = some (.slice x.A2 x.n2 x.c2) := hc 3 _ rfl
      have c4 : wr.cell? ⟨b, off + k * 6 + 4, none⟩ = some (.slice x.A3 x.n3 x.c3) := hc 4 _ rfl
      have c5 : wr.cell? ⟨b, off + k * 6 + 5, none⟩ = some (.int .i64 x.p4) := hc 5 _ rfl
      clear hb hzz hc
      go_wp2_with fail
      refine Calls.mono (sz_tab x.s0 x.A1 x.n1 x.c1 x.A2 x.n2 x.c2 x.A3 x.n3 x.c3 x.p4 (left - (n : Int) - (S : Int)) _ HX.out.1.1 HX.out.2.1.1 HX.out.2.2.1 (by first | (have := HT2.out; omega) | (simpa using hf)) (by omega)) ?_
      rintro e w1 ⟨rfl, hb1⟩
      have HB1 := Lib.hid (below_trans HB.out hb1 (Nat.le_refl _))
      have hd1 : decide (left - (n : Int) - (S : Int) - (x.n1 : Int) - (x.n2 : Int) - (x.n3 : Int) < 0) = false := by first | (have := HT2.out; simp; omega) | (simp; omega)
      clear hb1 c0 c1 c2 c3 c4 c5
      go_wp2_with fail
      go_roundw
      case rel => exact ⟨k + 1, S + (x.n1 + x.n2 + x.n3), by omega, by go_num, (by first | go_num | (congr 1; push_cast; omega)), HT1, Lib.hid (by have := HT2.out; first | omega | (push_cast; omega)), HB1.out⟩
      case measure => simp [intOf]; omega
    · obtain rfl : k = n := by omega
      have hh := hS.out
      rw [List.take_of_length_le (by rw [List.length_map, HL.out]; omega), hT.out] at hh
      subst hh
      clear hb hS
      go_wp2_with fail
      go_ret
      exact ⟨congrArg (fun z => Ending.returned (Value.int .i64 z)) (by push_cast; omega), HB.out⟩

theorem szno_tabs (xs : List DTab) (A : Option Addr) (n c lo hi : Nat) (left : Int) (w : World) (hr : RdTab w lo hi A n xs) (h : ¬ (((n + MTab.szs (xs.map DTab.dat) : Nat) : Int) ≤ left)) (hl : left ≤ 1048576) (hl0 : 0 ≤ left) :
    Calls Tryz.prog 35 #[.slice A n c, .int .i64 left] w (Says (.int .i64 (-1)) w) := by
  have HL := Lib.hid hr.len
  have hn := hr.1
  have HR := Lib.hid hr
  clear hr
  obtain ⟨T, hT⟩ : ∃ T, Hid (MTab.szs (xs.map DTab.dat) = T) := ⟨_, Lib.hid rfl⟩
  rw [hT.out] at h
  by_cases hn0 : left < (n : Int)
  · have hd0 : decide (left - (n : Int) < 0) = true := by simp; omega
    go_enter Tryz.func35, Tryz.ntmps35
    go_wp2_with fail
    go_ret
    exact ⟨rfl, Below.refl _ _⟩
  · skip
    have hd0 : decide (left - (n : Int) < 0) = false := by simp; omega
    go_enter Tryz.func35, Tryz.ntmps35
    go_wp2_with fail
    go_loopw [1, 5] (fun q i wr => ∃ (k S : Nat), k ≤ n ∧ i = .int .i64 k ∧ q = .int .i64 (left - (n : Int) - (S : Int)) ∧ Hid (S = MTab.szs ((xs.map DTab.dat).take k)) ∧ Hid ((n : Int) + (S : Int) ≤ left) ∧ Below w.heap.size w wr) (fun _ i _ => n - (intOf i).toNat)
    case atStart => exact ⟨0, 0, Nat.zero_le _, rfl, by simp, Lib.hid rfl, Lib.hid (by simp at hd0 ⊢; omega), Below.refl _ _⟩
    case round =>
      obtain ⟨k, S, hk, rfl, rfl, hS, hSl, hb⟩ := hrel
      have HB := Lib.hid hb
      by_cases hlt : k < n
      · obtain ⟨b, off, x, rfl, _, _, hzz, hc⟩ := rd_elem DTab.len (HR.out.new hb).2.1 HL.out hlt
        have HX := Lib.hid ((HR.out.new hb).at_ hzz)
        have HT1 : Hid (S + (x.n1 + x.n2 + x.n3) = MTab.szs ((xs.map DTab.dat).take (k + 1))) := Lib.hid (by
          rw [MTab.szs_one (xs.map DTab.dat) k x.dat (by rw [List.getElem?_map, hzz]; rfl), ← hS.out, DTab.rd_sz HX.out])
        have HT2 : Hid (S + (x.n1 + x.n2 + x.n3) ≤ T) := Lib.hid (by rw [HT1.out, ← hT.out]; exact MTab.szs_le _ _)
        have c0 : wr.cell? ⟨b, off + k * 6, none⟩ = some (.int .i64 x.s0.f0) := hc 0 _ rfl
        have c1 : wr.cell? ⟨b, off + k * 6 + 1, none⟩ = some (.int .i64 x.s0.f1) := hc 1 _ rfl
        have c2 : wr.cell? ⟨b, off + k * 6 + 2, none⟩ = some (.slice x.A1 x.n1 x.c1) := hc 2 _ rfl
        have c3 : wr.cell? ⟨b, off + k * 6 + 3, none⟩ = some (.slice x.A2 x.n2 x.c2) := hc 3 _ rfl
        have c4 : wr.cell? ⟨b, off + k * 6 + 4, none⟩ = some (.slice x.A3 x.n3 x.c3) := hc 4 _ rfl
        have c5 : wr.cell? ⟨b, off + k * 6 + 5, none⟩ = some (.int .i64 x.p4) := hc 5 _ rfl
        clear hb hzz hc
        by_cases hf : (x.n1 : Int) + (x.n2 : Int) + (x.n3 : Int) ≤ left - (n : Int) - (S : Int)
        · skip
          go_wp2_with fail
          refine Calls.mono (sz_tab x.s0 x.A1 x.n1 x.c1 x.A2 x.n2 x.c2 x.A3 x.n3 x.c3 x.p4 (left - (n : Int) - (S : Int)) _ HX.out.1.1 HX.out.2.1.1 HX.out.2.2.1 (by first | (have := HT2.out; omega) | (simpa using hf)) (by omega)) ?_
          rintro e w1 ⟨rfl, hb1⟩
          have HB1 := Lib.hid (below_trans HB.out hb1 (Nat.le_refl _))
          have hd1 : decide (left - (n : Int) - (S : Int) - (x.n1 : Int) - (x.n2 : Int) - (x.n3 : Int) < 0) = false := by first | (have := HT2.out; simp; omega) | (simp; omega)
          clear hb1 c0 c1 c2 c3 c4 c5
          go_wp2_with fail
          go_roundw
          case rel => exact ⟨k + 1, S + (x.n1 + x.n2 + x.n3), by omega, by go_num, (by first | go_num | (congr 1; push_cast; omega)), HT1, Lib.hid (by first | omega | (push_cast; omega)), HB1.out⟩
          case measure => simp [intOf]; omega
        · skip
          go_wp2_with fail
          refine Calls.mono (szno_tab x.s0 x.A1 x.n1 x.c1 x.A2 x.n2 x.c2 x.A3 x.n3 x.c3 x.p4 (left - (n : Int) - (S : Int)) _ HX.out.1.1 HX.out.2.1.1 HX.out.2.2.1 (by omega) (by omega) (by have := hSl.out; omega)) ?_
          rintro e w1 ⟨rfl, hb1⟩
          have HB1 := Lib.hid (below_trans HB.out hb1 (Nat.le_refl _))
          clear hb1 c0 c1 c2 c3 c4 c5
          go_wp2_with fail
          go_ret
          exact ⟨rfl, HB1.out⟩
      · exfalso
        have hh := hS.out
        rw [List.take_of_length_le (by rw [List.length_map, HL.out]; omega), hT.out] at hh
        have := hSl.out
        omega

end Go.Proofs.YtkegapaococmcaaGreat
namespace Go.Proofs.YtkegapaococmcaaGreat
open Go Go.ChangeShapes Go.WideShapes Go.ChangeAt Go.RowKit Go.Lib
set_option linter.unusedVariables false
set_option linter.unusedSimpArgs false
set_option maxRecDepth 100000
set_option maxHeartbeats 4000000

theorem eq_tabs_same (xs ys : List DTab) (A A' : Option Addr) (n n' c c' lo hi lo' hi' : Nat) (w : World) (hd : ys.map DTab.dat = xs.map DTab.dat) (hn : n ≤ 1048576) (hz : ∀ x ∈ xs, x.dat.sz ≤ 1048576) (hr : RdTab w lo hi A n xs) (hr' : RdTab w lo' hi' A' n' ys) :
    Calls Tryz.prog 57 #[.slice A n c, .slice A' n' c'] w (Says (.bool true) w) := by
  have HL := Lib.hid hr.len
  have HL' := Lib.hid hr'.len
  obtain rfl : n' = n := by have := congrArg List.length hd; simp only [List.length_map] at this; rw [← HL.out, ← HL'.out, this]
  have HD := Lib.hid hd
  have HZS := Lib.hid hz
  have HR := Lib.hid hr
  have HR' := Lib.hid hr'
  clear hr hr' hd hz
  go_enter Tryz.func57, Tryz.ntmps57
  go_wp2_with fail
  go_loopw [5] (fun i wr => ∃ k : Nat, k ≤ n' ∧ i = .int .i64 k ∧ Below w.heap.size w wr) (fun i _ => n' - (intOf i).toNat)
  case atStart => exact ⟨0, Nat.zero_le _, rfl, Below.refl _ _⟩
  case round =>
    obtain ⟨k, hk, rfl, hb⟩ := hrel
    have HB := Lib.hid hb
    by_cases hlt : k < n'
    · obtain ⟨b, off, x, rfl, _, _, hzz, hc⟩ := rd_elem DTab.len (HR.out.new hb).2.1 HL.out hlt
      obtain ⟨b', off', y, rfl, _, _, hzz', hc'⟩ := rd_elem DTab.len (HR'.out.new hb).2.1 HL'.out hlt
      have HX := Lib.hid ((HR.out.new hb).at_ hzz)
      have HY := Lib.hid ((HR'.out.new hb).at_ hzz')
      have hxz := HZS.out x (List.mem_of_getElem? hzz)
      rw [DTab.rd_sz HX.out] at hxz
      have hxy : y.dat = x.dat := map_get_eq HD.out hzz hzz'
      have HLX := DTab.rd_lens HX.out
      have HLY := DTab.rd_lens HY.out
      obtain ⟨ys0, A1_, n1_, c1_, l1_, A2_, n2_, c2_, l2_, A3_, n3_, c3_, l3_, yp4⟩ := y
      simp only [DTab.dat, MTab.mk.injEq] at hxy
      obtain ⟨rfl, rfl, rfl, rfl, rfl⟩ := hxy
      dsimp only at HLX HLY
      obtain rfl : n1_ = x.n1 := by omega
      obtain rfl : n2_ = x.n2 := by omega
      obtain rfl : n3_ = x.n3 := by omega
      clear HLX HLY
      have c0 : wr.cell? ⟨b, off + k * 6, none⟩ = _ := hc 0 _ rfl
      have c1 := hc 1 _ rfl
      have c2 := hc 2 _ rfl
      have c3 := hc 3 _ rfl
      have c4 := hc 4 _ rfl
      have c5 := hc 5 _ rfl
      have c0' : wr.cell? ⟨b', off' + k * 6, none⟩ = _ := hc' 0 _ rfl
      have c1' := hc' 1 _ rfl
      have c2' := hc' 2 _ rfl
      have c3' := hc' 3 _ rfl
      have c4' := hc' 4 _ rfl
      have c5' := hc' 5 _ rfl
      dsimp only at c0 c0' c1 c1' c2 c2' c3 c3' c4 c4' c5 c5'
      clear hb hzz hzz' hc hc'
      go_wp2_with fail
      have HB2 := Lib.hid HB.out.drew
      go_still_tail 8, (by kernel_rfl)
      change wpList _ _ _ _ _ wr.drew
      replace HX := Lib.hid (show x.rd wr.drew lo hi from DTab.rd_keep HX.out fun _ _ _ _ => rfl)
      replace HY := Lib.hid (DTab.rd_keep (w' := wr.drew) HY.out fun _ _ _ _ => rfl)
      generalize wr.drew = w2 at HB2 HX HY ⊢
      go_wp2_with fail
      refine (eq_tab_same x.s0 x.l1 x.n1 x.A1 A1_ x.c1 c1_ _ _ _ _ x.l2 x.n2 x.A2 A2_ x.c2 c2_ _ _ _ _ x.l3 x.n3 x.A3 A3_ x.c3 c3_ _ _ _ _ x.p4 _ (by omega) (by omega) (by omega) HX.out.1.2 HX.out.2.1.2 HX.out.2.2.2 HY.out.1.2 HY.out.2.1.2 HY.out.2.2.2).mono ?_
      rintro e w1 ⟨rfl, hb1⟩
      have HB1 := Lib.hid (below_trans HB2.out hb1 (Nat.le_refl _))
      clear hb1
      go_wp2_with fail
      go_roundw
      case rel => exact ⟨k + 1, by omega, by go_num, HB1.out⟩
      case measure => simp [intOf]; omega
    · clear hb
      obtain rfl : k = n' := by omega
      go_wp2_with fail
      go_ret
      exact ⟨rfl, HB.out⟩

end Go.Proofs.YtkegapaococmcaaGreat
namespace Go.Proofs.YtkegapaococmcaaGreat
open Go Go.ChangeShapes Go.WideShapes Go.ChangeAt Go.RowKit Go.Lib
set_option linter.unusedVariables false
set_option linter.unusedSimpArgs false
set_option maxRecDepth 100000
set_option maxHeartbeats 4000000

theorem mark_tabs (xs : List DTab) (A : Option Addr) (n c lo hi k0 : Nat) (w : World) (hn : n ≤ 1048576) (hz : ∀ x ∈ xs, x.dat.sz ≤ 1048576) (hk0 : k0 + DTab.cnts xs ≤ 4294967296) (hr : FrTab w lo hi A n c xs) (hw : hi ≤ w.heap.size) :
    Calls Tryz.prog 63 #[.slice A n c, .int .i64 (k0 : Int)] w (fun e w' => e = .returned (.int .i64 ((k0 + DTab.cnts xs : Nat) : Int)) ∧ Chg lo hi w w') := by
  have HL := Lib.hid hr.rd.len
  have HZS := Lib.hid hz
  obtain ⟨_, m, hlm, hmh, hrow0, hfl⟩ := hr
  by_cases h0 : 0 < n
  · obtain ⟨g, cap, rfl, hlo, hhi, hcap, rfl, hcm, f, hrow, hf⟩ := hrow0.row h0
    have HR := Lib.hid (suf_row hrow hf)
    have HF := Lib.hid hfl
    clear hrow hf hrow0 hfl hz
    go_enter Tryz.func63, Tryz.ntmps63
    go_wp2_with fail
    go_loopw [1, 5] (fun q i wr => ∃ (k S m' : Nat), k ≤ n ∧ i = .int .i64 k ∧ q = .int .i64 (S : Int) ∧ Hid (S = k0 + DTab.cnts (xs.take k)) ∧ Suf wr g 85 (c * 6) (xs.flatMap DTab.cells) (k * 6) ∧ m ≤ m' ∧ Hid (DTab.frl wr m' hi (xs.drop k)) ∧ Chg lo hi w wr) (fun _ i _ => n - (intOf i).toNat)
    case atStart => exact ⟨0, k0, m, Nat.zero_le _, rfl, rfl, Lib.hid (by simp [DTab.cnts]), HR.out.skip (by omega), Nat.le_refl _, HF, Chg.refl _ _ _⟩
    case round =>
      obtain ⟨k, S, m', hk, rfl, rfl, hS, hrow, hmm, hfl, hb⟩ := hrel
      have HB := Lib.hid hb
      by_cases hlt : k < n
      · have hcc : k * 6 + 6 ≤ c * 6 := by omega
        have hxk : xs[k]? = some (xs[k]'(by have := HL.out; omega)) := List.getElem?_eq_getElem _
        generalize hxe : xs[k]'(by have := HL.out; omega) = x at hxk
        clear hxe
        have HG := Lib.hid (fun j u => flat_get DTab.len xs k j x u hxk)
        have HX := Lib.hid hxk
        obtain ⟨m2, h1, h2, hfr, hfl2⟩ := DTab.frl_drop hfl.out hxk
        have HF2 := Lib.hid hfl2
        have hxz := HZS.out x (List.mem_of_getElem? hxk)
        rw [DTab.rd_sz (DTab.fr_rd hfr)] at hxz
        obtain ⟨lo1, hi1, lo2, hi2, lo3, hi3, F1, F2, F3, hsep⟩ := hfr
        unfold SepTab at hsep
        replace F1 := Lib.hid F1
        replace F2 := Lib.hid F2
        replace F3 := Lib.hid F3
        have HS1 := Lib.hid (show S + x.cnt = k0 + DTab.cnts (xs.take (k + 1)) by rw [DTab.cnts_one xs k x hxk, hS.out]; omega)
        have hS1 : S + x.cnt ≤ 4294967296 := by rw [HS1.out]; exact Nat.le_trans (Nat.add_le_add_left (DTab.cnts_le xs (k + 1)) k0) hk0
        have hSb : S + ((x.n1 * 5) + (x.n2 * 6) + (x.n3) + 3) ≤ 4294967296 := hS1
        have HW := Lib.hid hrow
        clear hrow hb hfl hfl2 hxk
        obtain ⟨q0, e0⟩ := HW.out.some (j := k * 6) (by omega)
        have g0 := HW.out.frozen (k * 6)
        obtain ⟨q1, e1⟩ := HW.out.some (j := k * 6 + 1) (by omega)
        have g1 := HW.out.frozen (k * 6 + 1)
        have z2 : wr.cell? ⟨g, k * 6 + 2, none⟩ = some (.slice x.A1 x.n1 x.c1) := HW.out.cell (by omega) (by omega) (HG.out 2 _ rfl)
        go_wp2_with fail
        refine Calls.mono (mark_node (cNode x.l1) x.A1 x.n1 x.c1 lo1 hi1 (S + 1 + 1) _ (by omega) (by omega) (by repeat (first | exact F1.out.2 | refine Fr.put ?_ (by left; show g < _; omega) _))) ?_
        rintro e v1 ⟨rfl, _, hc, hz1⟩
        replace HW := Lib.hid ((show Suf _ g 85 (c * 6) (xs.flatMap DTab.cells) (k * 6 + 2) from ((((HW.out.skip (by omega)).step).skip (by omega)).step)).chg hc (by omega))
        replace F2 := Lib.hid (And.intro F2.out.1 (Fr.chg (show Fr _ lo2 hi2 71 6 x.A2 x.n2 x.c2 (cEdit x.l2) from (by repeat (first | exact F2.out.2 | refine Fr.put ?_ (by left; show g < _; omega) _))) hc (by omega)))
        replace F3 := Lib.hid (And.intro F3.out.1 (Fr.chg (show Fr _ lo3 hi3 3 1 x.A3 x.n3 x.c3 (i64s x.l3) from (by repeat (first | exact F3.out.2 | refine Fr.put ?_ (by left; show g < _; omega) _))) hc (by omega)))
        replace HF2 := Lib.hid (DTab.frl_keep HF2.out (fun b h1 h2 h3 => (hc.block b (by first | exact h3 | simpa [World.setCell] using h3) (by omega)).trans (by
          have hne : b ≠ g := by omega
          exact (Below.heap_setCell _ _ _ _ hne).trans ((Below.heap_setCell _ _ _ _ hne).trans (rfl)))))
        replace HB := Lib.hid (Chg.trans ((HB.out.set_ (.inl ⟨hlo, by show g < hi; omega⟩) _).set_ (.inl ⟨hlo, by show g < hi; omega⟩) _) (hc.mono (by omega) (.inl (by omega))))
        clear hc hz1 F1 z2 e0 g0 e1 g1
        have z3 : v1.cell? ⟨g, k * 6 + 3, none⟩ = some (.slice x.A2 x.n2 x.c2) := HW.out.cell (by omega) (by omega) (HG.out 3 _ rfl)
        go_wp2_with fail
        refine Calls.mono (mark_edit (cEdit x.l2) x.A2 x.n2 x.c2 lo2 hi2 (S + 1 + 1 + x.n1 * 5) _ (by omega) (by omega) (F2.out.2)) ?_
        rintro e v2 ⟨rfl, _, hc, hz2⟩
        replace HW := Lib.hid (HW.out.chg hc (by omega))
        replace F3 := Lib.hid (And.intro F3.out.1 ((F3.out.2).chg hc (by omega)))
        replace HF2 := Lib.hid (DTab.frl_keep HF2.out (fun b h1 h2 h3 => hc.block b h3 (by omega)))
        replace HB := Lib.hid (Chg.trans HB.out (hc.mono (by omega) (.inl (by omega))))
        clear hc hz2 F2 z3
        have z4 : v2.cell? ⟨g, k * 6 + 4, none⟩ = some (.slice x.A3 x.n3 x.c3) := HW.out.cell (by omega) (by omega) (HG.out 4 _ rfl)
        go_wp2_with fail
        refine Calls.mono (mark_int (i64s x.l3) x.A3 x.n3 x.c3 lo3 hi3 (S + 1 + 1 + x.n1 * 5 + x.n2 * 6) _ (by omega) (by omega) (F3.out.2)) ?_
        rintro e v3 ⟨rfl, _, hc, hz3⟩
        replace HW := Lib.hid (HW.out.chg hc (by omega))
        replace HF2 := Lib.hid (DTab.frl_keep HF2.out (fun b h1 h2 h3 => hc.block b h3 (by omega)))
        replace HB := Lib.hid (Chg.trans HB.out (hc.mono (by omega) (.inl (by omega))))
        clear hc hz3 F3 z4
        obtain ⟨q5, e5⟩ := HW.out.some (j := k * 6 + 5) (by omega)
        have g5 := HW.out.frozen (k * 6 + 5)
        go_wp2_with fail
        go_roundw
        case rel =>
          refine ⟨k + 1, S + x.cnt, m2, by omega, by go_num, ?_, HS1, (((HW.out.skip (i' := k * 6 + 5) (by omega)).step).skip (by omega)), by omega, ?_, (HB.out.set_ (.inl ⟨hlo, by show g < hi; omega⟩) _)⟩
          · simp only [DTab.cnt]; first | go_num | (congr 1; push_cast; omega)
          · exact Lib.hid (DTab.frl_keep HF2.out fun b h1 h2 h3 => by
              have hne : b ≠ g := by omega
              exact (Below.heap_setCell _ _ _ _ hne).trans (rfl))
        case measure => simp [intOf]; omega
      · obtain rfl : k = n := by omega
        have hh := hS.out
        rw [List.take_of_length_le (by have := HL.out; omega)] at hh
        subst hh
        clear hrow hb hS
        go_wp2_with fail
        go_ret
        exact ⟨rfl, HB.out⟩
  · obtain rfl : n = 0 := by omega
    have hx : xs = [] := List.eq_nil_of_length_eq_zero (by have := HL.out; omega)
    subst hx
    clear hrow0 hfl h0 hz
    go_enter Tryz.func63, Tryz.ntmps63
    go_wp2_with fail
    go_loopw [1, 5] (fun q i wr => q = .int .i64 (k0 : Int) ∧ i = .int .i64 0 ∧ wr = w) (fun _ i _ => 0)
    case atStart => exact ⟨rfl, rfl, rfl⟩
    case round =>
      obtain ⟨rfl, rfl, rfl⟩ := hrel
      go_wp2_with fail
      go_ret
      exact ⟨by simp [DTab.cnts], Chg.refl _ _ _⟩

end Go.Proofs.YtkegapaococmcaaGreat
namespace Go.Proofs.YtkegapaococmcaaGreat
open Go Go.ChangeShapes Go.WideShapes Go.ChangeAt Go.RowKit Go.Lib
set_option linter.unusedVariables false
set_option linter.unusedSimpArgs false
set_option maxRecDepth 100000
set_option maxHeartbeats 4000000

/-- A Package as it lies in memory. -/
structure DPackage where
  p0 : Int
  p1 : Int
  p2 : Int
  A3 : Option Addr
  n3 : Nat
  c3 : Nat
  l3 : List TGrant
  A4 : Option Addr
  n4 : Nat
  c4 : Nat
  l4 : List TFlow
  A5 : Option Addr
  n5 : Nat
  c5 : Nat
  l5 : List TRule
  A6 : Option Addr
  n6 : Nat
  c6 : Nat
  l6 : List TOp
  p7 : Int
/-- A Package as data. -/
structure MPackage where
  p0 : Int
  p1 : Int
  p2 : Int
  l3 : List TGrant
  l4 : List TFlow
  l5 : List TRule
  l6 : List TOp
  p7 : Int
def DPackage.cells (x : DPackage) : List Value := [.int .i64 x.p0, .int .i64 x.p1, .int .i64 x.p2, .slice x.A3 x.n3 x.c3, .slice x.A4 x.n4 x.c4, .slice x.A5 x.n5 x.c5, .slice x.A6 x.n6 x.c6, .int .i64 x.p7]
theorem DPackage.len (x : DPackage) : x.cells.length = 8 := rfl
def DPackage.dat (x : DPackage) : MPackage := ⟨x.p0, x.p1, x.p2, x.l3, x.l4, x.l5, x.l6, x.p7⟩
def MPackage.ok (x : MPackage) : Prop := (Lit.int .i64 x.p0).wf = true ∧ (Lit.int .i64 x.p1).wf = true ∧ (Lit.int .i64 x.p2).wf = true ∧ cGrantOk x.l3 ∧ cFlowOk x.l4 ∧ cRuleOk x.l5 ∧ cOpOk x.l6 ∧ (Lit.int .i64 x.p7).wf = true
/-- How many elements it leads to. -/
def MPackage.sz (x : MPackage) : Nat := x.l3.length + x.l4.length + x.l5.length + x.l6.length
/-- How many numbers marking it takes. -/
def DPackage.cnt (x : DPackage) : Nat := (x.n3 * 7) + (x.n4 * 3) + (x.n5 * 8) + (x.n6 * 4) + 4
def DPackage.cnts (l : List DPackage) : Nat := (l.map DPackage.cnt).sum
theorem DPackage.cnts_one (l : List DPackage) (k : Nat) (x : DPackage) (h : l[k]? = some x) : DPackage.cnts (l.take (k + 1)) = DPackage.cnts (l.take k) + x.cnt := by
  rw [DPackage.cnts, List.take_add_one, h]; simp [DPackage.cnts]
theorem DPackage.cnts_le (l : List DPackage) (k : Nat) : DPackage.cnts (l.take k) ≤ DPackage.cnts l := by
  conv => rhs; rw [← List.take_append_drop k l]
  simp only [DPackage.cnts, List.map_append, List.sum_append]
  omega
def MPackage.szs (l : List MPackage) : Nat := (l.map MPackage.sz).sum
theorem MPackage.szs_one (l : List MPackage) (k : Nat) (x : MPackage) (h : l[k]? = some x) : MPackage.szs (l.take (k + 1)) = MPackage.szs (l.take k) + x.sz := by
  rw [MPackage.szs, List.take_add_one, h]; simp [MPackage.szs]
theorem MPackage.szs_le (l : List MPackage) (k : Nat) : MPackage.szs (l.take k) ≤ MPackage.szs l := by
  conv => rhs; rw [← List.take_append_drop k l]
  simp only [MPackage.szs, List.map_append, List.sum_append]
  omega
theorem MPackage.szs_mem (l : List MPackage) (k : Nat) (x : MPackage) (h : l[k]? = some x) : x.sz ≤ MPackage.szs l := by
  have h1 := MPackage.szs_one l k x h
  have h2 := MPackage.szs_le l (k + 1)
  omega
/-- Its slices read so, in blocks from lo on and below hi. -/
def DPackage.rd (w : World) (lo hi : Nat) (x : DPackage) : Prop := (x.n3 ≤ 9223372036854775807 ∧ Rd w lo hi 7 x.A3 x.n3 (cGrant x.l3)) ∧ (x.n4 ≤ 9223372036854775807 ∧ Rd w lo hi 3 x.A4 x.n4 (cFlow x.l4)) ∧ (x.n5 ≤ 9223372036854775807 ∧ Rd w lo hi 8 x.A5 x.n5 (cRule x.l5)) ∧ (x.n6 ≤ 9223372036854775807 ∧ Rd w lo hi 4 x.A6 x.n6 (cOp x.l6))
theorem DPackage.rd_keep {w w' : World} {lo hi : Nat} {x : DPackage} (h : x.rd w lo hi) (hk : ∀ b, lo ≤ b → b < hi → b < w.heap.size → w'.heap[b]? = w.heap[b]?) : x.rd w' lo hi := by
  obtain ⟨h3, h4, h5, h6⟩ := h
  exact ⟨⟨h3.1, h3.2.keep hk⟩, ⟨h4.1, h4.2.keep hk⟩, ⟨h5.1, h5.2.keep hk⟩, ⟨h6.1, h6.2.keep hk⟩⟩
theorem DPackage.rd_mono {w : World} {lo hi lo' hi' : Nat} {x : DPackage} (h : x.rd w lo hi) (p1 : lo' ≤ lo) (p2 : hi ≤ hi') : x.rd w lo' hi' := by
  obtain ⟨h3, h4, h5, h6⟩ := h
  exact ⟨⟨h3.1, h3.2.mono p1 p2⟩, ⟨h4.1, h4.2.mono p1 p2⟩, ⟨h5.1, h5.2.mono p1 p2⟩, ⟨h6.1, h6.2.mono p1 p2⟩⟩
theorem DPackage.rd_old {w : World} {lo hi : Nat} {x : DPackage} (h : x.rd w lo hi) : x.rd w 0 w.heap.size := by
  obtain ⟨h3, h4, h5, h6⟩ := h
  exact ⟨⟨h3.1, h3.2.old (by decide)⟩, ⟨h4.1, h4.2.old (by decide)⟩, ⟨h5.1, h5.2.old (by decide)⟩, ⟨h6.1, h6.2.old (by decide)⟩⟩
theorem DPackage.rd_lens {w : World} {lo hi : Nat} {x : DPackage} (h : x.rd w lo hi) : x.l3.length = x.n3 ∧ x.l4.length = x.n4 ∧ x.l5.length = x.n5 ∧ x.l6.length = x.n6 := by
  obtain ⟨h3, h4, h5, h6⟩ := h
  exact ⟨(rd_len TGrant.len h3.2 (by decide)), (rd_len TFlow.len h4.2 (by decide)), (rd_len TRule.len h5.2 (by decide)), (rd_len TOp.len h6.2 (by decide))⟩
theorem DPackage.rd_sz {w : World} {lo hi : Nat} {x : DPackage} (h : x.rd w lo hi) : x.dat.sz = x.n3 + x.n4 + x.n5 + x.n6 := by
  obtain ⟨h3, h4, h5, h6⟩ := DPackage.rd_lens h
  simp only [MPackage.sz, DPackage.dat]
  omega
/-- Its slices are the maker's own, each in blocks of its own from lo on and below hi. -/
def DPackage.fr (w : World) (lo hi : Nat) (x : DPackage) : Prop := ∃ (lo3 hi3 lo4 hi4 lo5 hi5 lo6 hi6 : Nat), (x.n3 ≤ 9223372036854775807 ∧ Fr w lo3 hi3 114 7 x.A3 x.n3 x.c3 (cGrant x.l3)) ∧ (x.n4 ≤ 9223372036854775807 ∧ Fr w lo4 hi4 226 3 x.A4 x.n4 x.c4 (cFlow x.l4)) ∧ (x.n5 ≤ 9223372036854775807 ∧ Fr w lo5 hi5 160 8 x.A5 x.n5 x.c5 (cRule x.l5)) ∧ (x.n6 ≤ 9223372036854775807 ∧ Fr w lo6 hi6 228 4 x.A6 x.n6 x.c6 (cOp x.l6)) ∧ SepPackage lo hi lo3 hi3 lo4 hi4 lo5 hi5 lo6 hi6
theorem DPackage.fr_keep {w w' : World} {lo hi : Nat} {x : DPackage} (h : x.fr w lo hi) (hk : ∀ b, lo ≤ b → b < hi → b < w.heap.size → w'.heap[b]? = w.heap[b]?) : x.fr w' lo hi := by
  obtain ⟨lo3, hi3, lo4, hi4, lo5, hi5, lo6, hi6, h3, h4, h5, h6, hs⟩ := h
  have hd := SepPackage_bd hs
  exact ⟨lo3, hi3, lo4, hi4, lo5, hi5, lo6, hi6, ⟨h3.1, h3.2.keep fun b h1 h2 h3 => hk b (by omega) (by omega) h3⟩, ⟨h4.1, h4.2.keep fun b h1 h2 h3 => hk b (by omega) (by omega) h3⟩, ⟨h5.1, h5.2.keep fun b h1 h2 h3 => hk b (by omega) (by omega) h3⟩, ⟨h6.1, h6.2.keep fun b h1 h2 h3 => hk b (by omega) (by omega) h3⟩, hs⟩
theorem DPackage.fr_mono {w : World} {lo hi lo' hi' : Nat} {x : DPackage} (h : x.fr w lo hi) (h1 : lo' ≤ lo) (h2 : hi ≤ hi') : x.fr w lo' hi' := by
  obtain ⟨lo3, hi3, lo4, hi4, lo5, hi5, lo6, hi6, h3, h4, h5, h6, hs⟩ := h
  refine ⟨lo3, hi3, lo4, hi4, lo5, hi5, lo6, hi6, h3, h4, h5, h6, ?_⟩
  unfold SepPackage at hs ⊢
  omega
theorem DPackage.fr_rd {w : World} {lo hi : Nat} {x : DPackage} (h : x.fr w lo hi) : x.rd w lo hi := by
  obtain ⟨lo3, hi3, lo4, hi4, lo5, hi5, lo6, hi6, h3, h4, h5, h6, hs⟩ := h
  have hd := SepPackage_bd hs
  exact ⟨⟨h3.1, h3.2.rd.mono (by omega) (by omega)⟩, ⟨h4.1, h4.2.rd.mono (by omega) (by omega)⟩, ⟨h5.1, h5.2.rd.mono (by omega) (by omega)⟩, ⟨h6.1, h6.2.rd.mono (by omega) (by omega)⟩⟩
def DPackage.caps (x : DPackage) : Prop := x.n3 ≤ x.c3 ∧ x.n4 ≤ x.c4 ∧ x.n5 ≤ x.c5 ∧ x.n6 ≤ x.c6
theorem DPackage.fr_caps {w : World} {lo hi : Nat} {x : DPackage} (h : x.fr w lo hi) : x.caps := by
  obtain ⟨lo3, hi3, lo4, hi4, lo5, hi5, lo6, hi6, h3, h4, h5, h6, hs⟩ := h
  exact ⟨h3.2.cap, h4.2.cap, h5.2.cap, h6.2.cap⟩
def DPackage.frl (w : World) : Nat → Nat → List DPackage → Prop
  | lo, hi, [] => lo ≤ hi
  | lo, hi, x :: xs => ∃ m, lo ≤ m ∧ m ≤ hi ∧ x.fr w lo m ∧ DPackage.frl w m hi xs
theorem DPackage.frl_le {w : World} : ∀ {xs : List DPackage} {lo hi : Nat}, DPackage.frl w lo hi xs → lo ≤ hi
  | [], _, _, h => h
  | x :: xs, lo, hi, ⟨m, h1, h2, _, _⟩ => Nat.le_trans h1 h2
theorem DPackage.frl_keep {w w' : World} : ∀ {xs : List DPackage} {lo hi : Nat}, DPackage.frl w lo hi xs → (∀ b, lo ≤ b → b < hi → b < w.heap.size → w'.heap[b]? = w.heap[b]?) → DPackage.frl w' lo hi xs
  | [], _, _, h, _ => h
  | x :: xs, lo, hi, ⟨m, h1, h2, h3, h4⟩, hk => ⟨m, h1, h2, DPackage.fr_keep h3 fun b p q r => hk b p (by omega) r, DPackage.frl_keep h4 fun b p q r => hk b (by omega) q r⟩
theorem DPackage.frl_up {w : World} : ∀ {xs : List DPackage} {lo hi hi' : Nat}, DPackage.frl w lo hi xs → hi ≤ hi' → DPackage.frl w lo hi' xs
  | [], _, _, _, h, h' => Nat.le_trans h h'
  | x :: xs, lo, hi, hi', ⟨m, h1, h2, h3, h4⟩, h' => ⟨m, h1, Nat.le_trans h2 h', h3, DPackage.frl_up h4 h'⟩
theorem DPackage.frl_snoc {w : World} {y : DPackage} : ∀ {xs : List DPackage} {lo m m' hi : Nat}, DPackage.frl w lo m xs → y.fr w m' hi → m ≤ m' → m' ≤ hi → DPackage.frl w lo hi (xs ++ [y])
  | [], lo, m, m', hi, h, hy, h1, h2 => by
    have h : lo ≤ m := h
    exact ⟨hi, by omega, Nat.le_refl _, DPackage.fr_mono hy (by omega) (Nat.le_refl _), Nat.le_refl _⟩
  | x :: xs, lo, m, m', hi, ⟨q, h1, h2, h3, h4⟩, hy, h5, h6 => ⟨q, h1, by omega, h3, DPackage.frl_snoc h4 hy h5 h6⟩
theorem DPackage.frl_rd {w : World} : ∀ {xs : List DPackage} {lo hi : Nat}, DPackage.frl w lo hi xs → ∀ x ∈ xs, x.rd w lo hi
  | [], _, _, _, x, hx => by cases hx
  | y :: xs, lo, hi, ⟨m, h1, h2, h3, h4⟩, x, hx => by
    rcases List.mem_cons.1 hx with rfl | hx
    · exact DPackage.rd_mono (DPackage.fr_rd h3) (Nat.le_refl _) h2
    · exact DPackage.rd_mono (DPackage.frl_rd h4 x hx) h1 (Nat.le_refl _)
theorem DPackage.frl_caps {w : World} : ∀ {xs : List DPackage} {lo hi : Nat}, DPackage.frl w lo hi xs → ∀ x ∈ xs, x.caps
  | [], _, _, _, x, hx => by cases hx
  | y :: xs, lo, hi, ⟨m, h1, h2, h3, h4⟩, x, hx => by
    rcases List.mem_cons.1 hx with rfl | hx
    · exact DPackage.fr_caps h3
    · exact DPackage.frl_caps h4 x hx
theorem DPackage.frl_drop {w : World} : ∀ {xs : List DPackage} {lo hi k : Nat} {x : DPackage}, DPackage.frl w lo hi (xs.drop k) → xs[k]? = some x → ∃ m, lo ≤ m ∧ m ≤ hi ∧ x.fr w lo m ∧ DPackage.frl w m hi (xs.drop (k + 1)) := by
  intro xs lo hi k x h hx
  have hk : k < xs.length := (List.getElem?_eq_some_iff.1 hx).1
  rw [List.drop_eq_getElem_cons hk, (List.getElem?_eq_some_iff.1 hx).2] at h
  exact h
/-- A slice of them that reads so. -/
def RdPackage (w : World) (lo hi : Nat) (A : Option Addr) (n : Nat) (xs : List DPackage) : Prop := n ≤ 9223372036854775807 ∧ Rd w lo hi 8 A n (xs.flatMap DPackage.cells) ∧ ∀ x ∈ xs, x.rd w lo hi
/-- A slice of them that is the maker's own. -/
def FrPackage (w : World) (lo hi : Nat) (A : Option Addr) (n c : Nat) (xs : List DPackage) : Prop := n ≤ 9223372036854775807 ∧ ∃ m, lo ≤ m ∧ m ≤ hi ∧ Fr w lo m 119 8 A n c (xs.flatMap DPackage.cells) ∧ DPackage.frl w m hi xs
section
variable {w w' : World} {lo hi lo' hi' n c : Nat} {A : Option Addr} {xs : List DPackage}
theorem RdPackage.keep (h : RdPackage w lo hi A n xs) (hk : ∀ b, lo ≤ b → b < hi → b < w.heap.size → w'.heap[b]? = w.heap[b]?) : RdPackage w' lo hi A n xs := ⟨h.1, h.2.1.keep hk, fun x hx => DPackage.rd_keep (h.2.2 x hx) hk⟩
theorem RdPackage.new (h : RdPackage w lo hi A n xs) (hb : Below w.heap.size w w') : RdPackage w' lo hi A n xs := h.keep fun b _ _ h3 => hb.block b h3
theorem RdPackage.mono (h : RdPackage w lo hi A n xs) (h1 : lo' ≤ lo) (h2 : hi ≤ hi') : RdPackage w lo' hi' A n xs := ⟨h.1, h.2.1.mono h1 h2, fun x hx => DPackage.rd_mono (h.2.2 x hx) h1 h2⟩
theorem RdPackage.old (h : RdPackage w lo hi A n xs) : RdPackage w 0 w.heap.size A n xs := ⟨h.1, h.2.1.old (by decide), fun x hx => DPackage.rd_old (h.2.2 x hx)⟩
theorem RdPackage.len (h : RdPackage w lo hi A n xs) : xs.length = n := rd_len DPackage.len h.2.1 (by decide)
theorem RdPackage.at_ (h : RdPackage w lo hi A n xs) {k : Nat} {x : DPackage} (hx : xs[k]? = some x) : x.rd w lo hi := h.2.2 x (List.mem_of_getElem? hx)
theorem FrPackage.keep (h : FrPackage w lo hi A n c xs) (hk : ∀ b, lo ≤ b → b < hi → b < w.heap.size → w'.heap[b]? = w.heap[b]?) : FrPackage w' lo hi A n c xs := by
  obtain ⟨h0, m, h1, h2, h3, h4⟩ := h
  exact ⟨h0, m, h1, h2, h3.keep fun b p q r => hk b p (by omega) r, DPackage.frl_keep h4 fun b p q r => hk b (by omega) q r⟩
theorem FrPackage.new (h : FrPackage w lo hi A n c xs) (hb : Below w.heap.size w w') : FrPackage w' lo hi A n c xs := h.keep fun b _ _ h3 => hb.block b h3
theorem FrPackage.alloc (h : FrPackage w lo hi A n c xs) (o : Obj) : FrPackage (w.alloc o) lo hi A n c xs := h.keep fun b _ _ h3 => Below.heap_alloc w o b h3
theorem FrPackage.put (h : FrPackage w lo hi A n c xs) {p : Addr} (hp : p.block < lo ∨ hi ≤ p.block) (u : Value) : FrPackage (w.setCell p u) lo hi A n c xs :=
  h.keep fun b h1 h2 _ => Below.heap_setCell w p u b (by rintro rfl; omega)
theorem FrPackage.chg (h : FrPackage w lo hi A n c xs) (hc : Chg lo' hi' w w') (hd : hi ≤ lo' ∨ hi' ≤ lo ∨ hi' ≤ lo') : FrPackage w' lo hi A n c xs := h.keep fun b h1 h2 h3 => hc.block b h3 (by omega)
theorem FrPackage.mono (h : FrPackage w lo hi A n c xs) (h1 : lo' ≤ lo) (h2 : hi ≤ hi') : FrPackage w lo' hi' A n c xs := by
  obtain ⟨h0, m, p1, p2, h3, h4⟩ := h
  exact ⟨h0, m, by omega, by omega, h3.mono h1 (Nat.le_refl _), DPackage.frl_up h4 h2⟩
theorem FrPackage.rd (h : FrPackage w lo hi A n c xs) : RdPackage w lo hi A n xs := by
  obtain ⟨h0, m, h1, h2, h3, h4⟩ := h
  exact ⟨h0, h3.rd.mono (Nat.le_refl _) h2, fun x hx => DPackage.rd_mono (DPackage.frl_rd h4 x hx) h1 (Nat.le_refl _)⟩
end
/-- A call that answers a new slice of these. -/
def MakesPackages (xs : List DPackage) (n : Nat) (w : World) (e : Ending) (w' : World) : Prop :=
  ∃ (A : Option Addr) (c : Nat) (ys : List DPackage), e = .returned (.slice A n c) ∧ ys.map DPackage.dat = xs.map DPackage.dat ∧ FrPackage w' w.heap.size w'.heap.size A n c ys ∧ Below w.heap.size w w'

theorem DPackage.cnts_sz {w : World} {lo hi : Nat} : ∀ {xs : List DPackage}, (∀ x ∈ xs, x.rd w lo hi) → DPackage.cnts xs ≤ 8 * (xs.length + MPackage.szs (xs.map DPackage.dat))
  | [], _ => by simp [DPackage.cnts]
  | x :: xs, h => by
    have ih := DPackage.cnts_sz (xs := xs) (fun y hy => h y (List.mem_cons_of_mem _ hy))
    have hx := DPackage.rd_sz (h x (List.mem_cons_self ..))
    have hc : x.cnt ≤ 8 * (1 + x.dat.sz) := by rw [hx]; simp only [DPackage.cnt]; omega
    simp only [DPackage.cnts, MPackage.szs, List.map_cons, List.sum_cons, List.length_cons] at ih ⊢
    omega

section
variable {H : Type} {enc : TypeId × Value → H}
theorem read_package {W : World} {fuel : Nat} {cs : List Value} {y : DataW H × List MemPlace} (hq : DataW.trod enc Tryz.prog W 0 (fun _ => true) true fuel 152 cs = some y) (hlt : ∀ x ∈ y.2, x.block < W.heap.size) :
    ∃ x : DPackage, cs = x.cells ∧ x.rd W 0 W.heap.size ∧ x.dat.ok := by
  obtain ⟨ys, n, _, hx, hlen, hyl, hf⟩ := DataW.trod_struct Tryz.underlying152 hq
  have hx2 := congrArg Prod.snd hx
  simp only at hx2
  rw [hx2] at hlt
  have hlen : cs.length = 8 := hlen.trans (by kernel_rfl)
  have hyl : ys.length = 8 := hyl
  have hlt' : ∀ (i : Nat) (y : DataW H × List MemPlace), ys[i]? = some y → ∀ x ∈ y.2, x.block < W.heap.size := fun i y hy x hx => hlt x (List.mem_flatMap.2 ⟨y, List.mem_of_getElem? hy, hx⟩)
  match cs, hlen with
  | [z0, z1, z2, z3, z4, z5, z6, z7], _ =>
    have h0 := hf 0 _ rfl
    have h0' : DataW.trod enc Tryz.prog W 0 (fun _ => true) true n 3 [z0] = some (ys[0]'(by omega)) := by
      refine Eq.trans ?_ (h0.trans (List.getElem?_eq_getElem (by omega)))
      rfl
    obtain ⟨x0, e0, _, w0⟩ := DataW.trod_int Tryz.underlying3 h0'
    have h1 := hf 1 _ rfl
    have h1' : DataW.trod enc Tryz.prog W 0 (fun _ => true) true n 3 [z1] = some (ys[1]'(by omega)) := by
      refine Eq.trans ?_ (h1.trans (List.getElem?_eq_getElem (by omega)))
      rfl
    obtain ⟨x1, e1, _, w1⟩ := DataW.trod_int Tryz.underlying3 h1'
    have h2 := hf 2 _ rfl
    have h2' : DataW.trod enc Tryz.prog W 0 (fun _ => true) true n 3 [z2] = some (ys[2]'(by omega)) := by
      refine Eq.trans ?_ (h2.trans (List.getElem?_eq_getElem (by omega)))
      rfl
    obtain ⟨x2, e2, _, w2⟩ := DataW.trod_int Tryz.underlying3 h2'
    have h3 := hf 3 _ rfl
    have h3' : DataW.trod enc Tryz.prog W 0 (fun _ => true) true n 24 [z3] = some (ys[3]'(by omega)) := by
      refine Eq.trans ?_ (h3.trans (List.getElem?_eq_getElem (by omega)))
      rfl
    obtain ⟨A3, n3, c3, l3, e3, m3, r3, k3⟩ := rows_trod (c := TGrant.cells) (fit := TGrant.fit) (d := (ys[3]'(by omega)).1) (p := (ys[3]'(by omega)).2) Tryz.underlying24 (by kernel_rfl) TGrant.len (by decide) (fun h => read_grant h) h3' (hlt' 3 _ (List.getElem?_eq_getElem (by omega)))
    have h4 := hf 4 _ rfl
    have h4' : DataW.trod enc Tryz.prog W 0 (fun _ => true) true n 149 [z4] = some (ys[4]'(by omega)) := by
      refine Eq.trans ?_ (h4.trans (List.getElem?_eq_getElem (by omega)))
      rfl
    obtain ⟨A4, n4, c4, l4, e4, m4, r4, k4⟩ := rows_trod (c := TFlow.cells) (fit := TFlow.fit) (d := (ys[4]'(by omega)).1) (p := (ys[4]'(by omega)).2) Tryz.underlying149 (by kernel_rfl) TFlow.len (by decide) (fun h => read_flow h) h4' (hlt' 4 _ (List.getElem?_eq_getElem (by omega)))
    have h5 := hf 5 _ rfl
    have h5' : DataW.trod enc Tryz.prog W 0 (fun _ => true) true n 26 [z5] = some (ys[5]'(by omega)) := by
      refine Eq.trans ?_ (h5.trans (List.getElem?_eq_getElem (by omega)))
      rfl
    obtain ⟨A5, n5, c5, l5, e5, m5, r5, k5⟩ := rows_trod (c := TRule.cells) (fit := TRule.fit) (d := (ys[5]'(by omega)).1) (p := (ys[5]'(by omega)).2) Tryz.underlying26 (by kernel_rfl) TRule.len (by decide) (fun h => read_rule h) h5' (hlt' 5 _ (List.getElem?_eq_getElem (by omega)))
    have h6 := hf 6 _ rfl
    have h6' : DataW.trod enc Tryz.prog W 0 (fun _ => true) true n 150 [z6] = some (ys[6]'(by omega)) := by
      refine Eq.trans ?_ (h6.trans (List.getElem?_eq_getElem (by omega)))
      rfl
    obtain ⟨A6, n6, c6, l6, e6, m6, r6, k6⟩ := rows_trod (c := TOp.cells) (fit := TOp.fit) (d := (ys[6]'(by omega)).1) (p := (ys[6]'(by omega)).2) Tryz.underlying150 (by kernel_rfl) TOp.len (by decide) (fun h => read_op h) h6' (hlt' 6 _ (List.getElem?_eq_getElem (by omega)))
    have h7 := hf 7 _ rfl
    have h7' : DataW.trod enc Tryz.prog W 0 (fun _ => true) true n 3 [z7] = some (ys[7]'(by omega)) := by
      refine Eq.trans ?_ (h7.trans (List.getElem?_eq_getElem (by omega)))
      rfl
    obtain ⟨x7, e7, _, w7⟩ := DataW.trod_int Tryz.underlying3 h7'
    refine ⟨⟨x0, x1, x2, A3, n3, c3, l3, A4, n4, c4, l4, A5, n5, c5, l5, A6, n6, c6, l6, x7⟩, ?_, ⟨⟨Nat.le_trans m3 (by decide), r3⟩, ⟨Nat.le_trans m4 (by decide), r4⟩, ⟨Nat.le_trans m5 (by decide), r5⟩, ⟨Nat.le_trans m6 (by decide), r6⟩⟩, ⟨w0, w1, w2, k3, k4, k5, k6, w7⟩⟩
    simp only [List.cons.injEq, and_true] at e0 e1 e2 e3 e4 e5 e6 e7
    simp_all [DPackage.cells]
theorem trod_packages {W : World} {fuel : Nat} {cs : List Value} {d : DataW H} {p : List MemPlace} (hf : DataW.trod enc Tryz.prog W 0 (fun _ => true) true fuel 23 cs = some (d, p)) (hlt : ∀ x ∈ p, x.block < W.heap.size) :
    ∃ (A : Option Addr) (n cap : Nat) (l : List DPackage), cs = [.slice A n cap] ∧ RdPackage W 0 W.heap.size A n l ∧ Hid (∀ x ∈ l, x.dat.ok) := by
  obtain ⟨A, n, cap, l, h1, h2, h3, h4⟩ := rows_trod_at (c := DPackage.cells) (fit := fun x => x.rd W 0 W.heap.size ∧ x.dat.ok) Tryz.underlying23 (by kernel_rfl) DPackage.len (by decide) (fun h hl => read_package h hl) hf hlt
  exact ⟨A, n, cap, l, h1, ⟨Nat.le_trans h2 (by decide), h3, fun x hx => (h4.out x hx).1⟩, Lib.hid fun x hx => (h4.out x hx).2⟩
end

end Go.Proofs.YtkegapaococmcaaGreat
namespace Go.Proofs.YtkegapaococmcaaGreat
open Go Go.ChangeShapes Go.WideShapes Go.ChangeAt Go.RowKit Go.Lib
set_option linter.unusedVariables false
set_option linter.unusedSimpArgs false
set_option maxRecDepth 100000
set_option maxHeartbeats 4000000

theorem to_packages (xs : List DPackage) (A : Option Addr) (n c lo hi : Nat) (w : World) (hn : n ≤ 1048576) (hz : ∀ x ∈ xs, x.dat.sz ≤ 1048576) (hr : RdPackage w lo hi A n xs) :
    Calls Tryz.prog 45 #[.slice A n c] w (MakesPackages xs n w) := by
  have hmk := make_rows (P := Tryz.prog) 34 119 (.agg #[.int .i64 0, .int .i64 0, .int .i64 0, .slice none 0 0, .slice none 0 0, .slice none 0 0, .slice none 0 0, .int .i64 0]) 8 128 Tryz.underlying34 (by kernel_rfl) n (by omega) (by omega)
  have HL := Lib.hid hr.len
  have HR := Lib.hid hr
  have HZS := Lib.hid hz
  clear hr hz
  go_enter Tryz.func45, Tryz.ntmps45
  go_wp2_with fail
  go_loopw [4] (fun i wr => ∃ (k : Nat) (ys : List DPackage), k ≤ n ∧ i = .int .i64 k ∧ Hid (ys.map DPackage.dat = (xs.take k).map DPackage.dat) ∧ Pre wr w.heap.size 119 (n * 8) (ys.flatMap DPackage.cells) (k * 8) ∧ Hid (DPackage.frl wr (w.heap.size + 1) wr.heap.size ys) ∧ Below w.heap.size w wr) (fun i _ => n - (intOf i).toNat)
  case atStart => exact ⟨0, [], Nat.zero_le _, rfl, rfl, (pre_start (size_madeCells _ _)).at_ (by omega), Lib.hid (show w.heap.size + 1 ≤ _ by simp), (Below.refl _ _).alloc (Nat.le_refl _) _⟩
  case round =>
    obtain ⟨k, ys, hk, rfl, hd, hrow, hfl, hb⟩ := hrel
    have HB := Lib.hid hb
    have HYL : ys.length = k := by have := congrArg List.length hd.out; simp only [List.length_map, List.length_take] at this; have := HL.out; omega
    by_cases hlt : k < n
    · obtain ⟨b, off, x, rfl, _, _, hzz, hc⟩ := rd_elem DPackage.len (HR.out.new hb).2.1 HL.out hlt
      have HX := Lib.hid ((HR.out.new hb).at_ hzz)
      have c0 : wr.cell? ⟨b, off + k * 8, none⟩ = some (.int .i64 x.p0) := hc 0 _ rfl
      have c1 : wr.cell? ⟨b, off + k * 8 + 1, none⟩ = some (.int .i64 x.p1) := hc 1 _ rfl
      have c2 : wr.cell? ⟨b, off + k * 8 + 2, none⟩ = some (.int .i64 x.p2) := hc 2 _ rfl
      have c3 : wr.cell? ⟨b, off + k * 8 + 3, none⟩ = some (.slice x.A3 x.n3 x.c3) := hc 3 _ rfl
      have c4 : wr.cell? ⟨b, off + k * 8 + 4, none⟩ = some (.slice x.A4 x.n4 x.c4) := hc 4 _ rfl
      have c5 : wr.cell? ⟨b, off + k * 8 + 5, none⟩ = some (.slice x.A5 x.n5 x.c5) := hc 5 _ rfl
      have c6 : wr.cell? ⟨b, off + k * 8 + 6, none⟩ = some (.slice x.A6 x.n6 x.c6) := hc 6 _ rfl
      have c7 : wr.cell? ⟨b, off + k * 8 + 7, none⟩ = some (.int .i64 x.p7) := hc 7 _ rfl
      have HZ := Lib.hid hzz
      have HW := Lib.hid hrow
      have hxz := HZS.out x (List.mem_of_getElem? hzz)
      rw [DPackage.rd_sz HX.out] at hxz
      clear hrow hb hzz hc
      go_wp2_with fail
      refine (to_package x.p0 x.p1 x.p2 x.l3 x.A3 x.n3 x.c3 _ _ x.l4 x.A4 x.n4 x.c4 _ _ x.l5 x.A5 x.n5 x.c5 _ _ x.l6 x.A6 x.n6 x.c6 _ _ x.p7 _ (by omega) HX.out.1.2 (by omega) HX.out.2.1.2 (by omega) HX.out.2.2.1.2 (by omega) HX.out.2.2.2.2).mono ?_
      rintro e w1 ⟨B3, B4, B5, B6, d3, lo3, hi3, d4, lo4, hi4, d5, lo5, hi5, d6, lo6, hi6, rfl, F3, F4, F5, F6, hsep, hb1⟩
      have HYN : ∃ y : DPackage, y = ⟨x.p0, x.p1, x.p2, B3, x.n3, d3, x.l3, B4, x.n4, d4, x.l4, B5, x.n5, d5, x.l5, B6, x.n6, d6, x.l6, x.p7⟩ := ⟨_, rfl⟩
      obtain ⟨y, hy⟩ := HYN
      have HYF : Hid (y.fr w1 wr.heap.size w1.heap.size) := by
        subst hy
        exact Lib.hid ⟨lo3, hi3, lo4, hi4, lo5, hi5, lo6, hi6, ⟨by dsimp only; omega, F3⟩, ⟨by dsimp only; omega, F4⟩, ⟨by dsimp only; omega, F5⟩, ⟨by dsimp only; omega, F6⟩, hsep.out⟩
      have HYD : Hid (y.dat = x.dat) := by subst hy; exact Lib.hid rfl
      have HYC : Hid (y.cells = [.int .i64 x.p0, .int .i64 x.p1, .int .i64 x.p2, .slice B3 x.n3 d3, .slice B4 x.n4 d4, .slice B5 x.n5 d5, .slice B6 x.n6 d6, .int .i64 x.p7]) := by subst hy; exact Lib.hid rfl
      clear hy hsep F3 F4 F5 F6
      have HF1 := Lib.hid (DPackage.frl_keep hfl.out (fun b _ h2 h3 => hb1.block b h3))
      have HW1 := Lib.hid (HW.out.new hb1)
      have HB1 := Lib.hid (below_trans HB.out hb1 (Nat.le_refl _))
      have hsz1 := hb1.size
      have hgl := HW.out.lt
      have HW2 := Lib.hid (show Pre w1 w.heap.size 119 (n * 8) ((ys ++ [y]).flatMap DPackage.cells) (k * 8) by
        rw [List.flatMap_append]
        exact HW1.out.more (by rw [flat_len DPackage.len, HYL]))
      have HG : Hid (∀ (j : Nat) (u : Value), y.cells[j]? = some u → ((ys ++ [y]).flatMap DPackage.cells)[k * 8 + j]? = some u) := Lib.hid fun j u hu => flat_get DPackage.len (ys ++ [y]) k j y u (by rw [List.getElem?_append_right (by omega), HYL]; simp) hu
      rw [HYC.out] at HG
      clear HW HW1
      obtain ⟨q0, d0_⟩ := HW2.out.cell (j := k * 8) (by omega)
      have g0_ := HW2.out.frozen (k * 8)
      obtain ⟨q1, d1_⟩ := HW2.out.cell (j := k * 8 + 1) (by omega)
      have g1_ := HW2.out.frozen (k * 8 + 1)
      obtain ⟨q2, d2_⟩ := HW2.out.cell (j := k * 8 + 2) (by omega)
      have g2_ := HW2.out.frozen (k * 8 + 2)
      obtain ⟨q3, d3_⟩ := HW2.out.cell (j := k * 8 + 3) (by omega)
      have g3_ := HW2.out.frozen (k * 8 + 3)
      obtain ⟨q4, d4_⟩ := HW2.out.cell (j := k * 8 + 4) (by omega)
      have g4_ := HW2.out.frozen (k * 8 + 4)
      obtain ⟨q5, d5_⟩ := HW2.out.cell (j := k * 8 + 5) (by omega)
      have g5_ := HW2.out.frozen (k * 8 + 5)
      obtain ⟨q6, d6_⟩ := HW2.out.cell (j := k * 8 + 6) (by omega)
      have g6_ := HW2.out.frozen (k * 8 + 6)
      obtain ⟨q7, d7_⟩ := HW2.out.cell (j := k * 8 + 7) (by omega)
      have g7_ := HW2.out.frozen (k * 8 + 7)
      clear hb1 c0 c1 c2 c3 c4 c5 c6 c7
      go_wp2_with fail
      go_roundw
      case rel =>
        refine ⟨k + 1, ys ++ [y], by omega, by go_num, Lib.hid (map_take_one hd.out HZ.out HYD.out), ?_, ?_, ?_⟩
        · exact (((((((((HW2.out.step (HG.out 0 _ rfl)).step (HG.out 1 _ rfl)).step (HG.out 2 _ rfl)).step (HG.out 3 _ rfl)).step (HG.out 4 _ rfl)).step (HG.out 5 _ rfl)).step (HG.out 6 _ rfl)).step (HG.out 7 _ rfl))).at_ (by omega)
        · refine Lib.hid (DPackage.frl_up (DPackage.frl_keep (DPackage.frl_snoc HF1.out HYF.out (Nat.le_refl _) hsz1) fun b h1 _ _ => ?_) (by simp [World.setCell]))
          have h2 : b ≠ w.heap.size := by omega
          exact (Below.heap_setCell _ _ _ _ h2).trans ((Below.heap_setCell _ _ _ _ h2).trans ((Below.heap_setCell _ _ _ _ h2).trans ((Below.heap_setCell _ _ _ _ h2).trans ((Below.heap_setCell _ _ _ _ h2).trans ((Below.heap_setCell _ _ _ _ h2).trans ((Below.heap_setCell _ _ _ _ h2).trans ((Below.heap_setCell _ _ _ _ h2).trans (rfl))))))))
        · exact ((((((((HB1.out.setCell (Nat.le_refl _) _).setCell (Nat.le_refl _) _).setCell (Nat.le_refl _) _).setCell (Nat.le_refl _) _).setCell (Nat.le_refl _) _).setCell (Nat.le_refl _) _).setCell (Nat.le_refl _) _).setCell (Nat.le_refl _) _)
      case measure => simp [intOf]; omega
    · obtain rfl : k = n := by omega
      have HW := Lib.hid hrow
      have hsz1 := HB.out.size
      have hgl := hrow.lt
      clear hrow hb
      go_wp2_with fail
      go_ret
      exact ⟨_, _, ys, rfl, by rw [hd.out, List.take_of_length_le (by have := HL.out; omega)], ⟨by omega, w.heap.size + 1, by omega, by omega, HW.out.fr (Nat.le_refl _) (by omega) (by unfold maxLen; omega) (by rw [flat_len DPackage.len, HYL]), hfl.out⟩, HB.out⟩

end Go.Proofs.YtkegapaococmcaaGreat
namespace Go.Proofs.YtkegapaococmcaaGreat
open Go Go.ChangeShapes Go.WideShapes Go.ChangeAt Go.RowKit Go.Lib
set_option linter.unusedVariables false
set_option linter.unusedSimpArgs false
set_option maxRecDepth 100000
set_option maxHeartbeats 4000000

theorem sz_packages (xs : List DPackage) (A : Option Addr) (n c lo hi : Nat) (left : Int) (w : World) (hr : RdPackage w lo hi A n xs) (h : ((n + MPackage.szs (xs.map DPackage.dat) : Nat) : Int) ≤ left) (hl : left ≤ 1048576) :
    Calls Tryz.prog 36 #[.slice A n c, .int .i64 left] w (Says (.int .i64 (left - ((n + MPackage.szs (xs.map DPackage.dat) : Nat) : Int))) w) := by
  have HL := Lib.hid hr.len
  have hn := hr.1
  have HR := Lib.hid hr
  clear hr
  obtain ⟨T, hT⟩ : ∃ T, Hid (MPackage.szs (xs.map DPackage.dat) = T) := ⟨_, Lib.hid rfl⟩
  rw [hT.out] at h ⊢
  have hd0 : decide (left - (n : Int) < 0) = false := by simp; omega
  go_enter Tryz.func36, Tryz.ntmps36
  go_wp2_with fail
  go_loopw [1, 5] (fun q i wr => ∃ (k S : Nat), k ≤ n ∧ i = .int .i64 k ∧ q = .int .i64 (left - (n : Int) - (S : Int)) ∧ Hid (S = MPackage.szs ((xs.map DPackage.dat).take k)) ∧ Hid ((n : Int) + (S : Int) ≤ left) ∧ Below w.heap.size w wr) (fun _ i _ => n - (intOf i).toNat)
  case atStart => exact ⟨0, 0, Nat.zero_le _, rfl, by simp, Lib.hid rfl, Lib.hid (by simp at hd0 ⊢; omega), Below.refl _ _⟩
  case round =>
    obtain ⟨k, S, hk, rfl, rfl, hS, hSl, hb⟩ := hrel
    have HB := Lib.hid hb
    by_cases hlt : k < n
    · obtain ⟨b, off, x, rfl, _, _, hzz, hc⟩ := rd_elem DPackage.len (HR.out.new hb).2.1 HL.out hlt
      have HX := Lib.hid ((HR.out.new hb).at_ hzz)
      have HT1 : Hid (S + (x.n3 + x.n4 + x.n5 + x.n6) = MPackage.szs ((xs.map DPackage.dat).take (k + 1))) := Lib.hid (by
        rw [MPackage.szs_one (xs.map DPackage.dat) k x.dat (by rw [List.getElem?_map, hzz]; rfl), ← hS.out, DPackage.rd_sz HX.out])
      have HT2 : Hid (S + (x.n3 + x.n4 + x.n5 + x.n6) ≤ T) := Lib.hid (by rw [HT1.out, ← hT.out]; exact MPackage.szs_le _ _)
      have c0 : wr.cell? ⟨b, off + k * 8, none⟩ = some (.int .i64 x.p0) := hc 0 _ rfl
      have c1 : wr.cell? ⟨b, off + k * 8 + 1, none⟩ = some (.int .i64 x.p1) := hc 1 _ rfl
      have c2 : wr.cell? ⟨b, off + k * 8 + 2, none⟩ = some (.int .i64 x.p2) := hc 2 _ rfl
      have c3 : wr.cell? ⟨b, off + k * 8 + 3, none⟩ = some (.slice x.A3 x.n3 x.c3) := hc 3 _ rfl
      have c4 : wr.cell? ⟨b, off + k * 8 + 4, none⟩ = some (.slice x.A4 x.n4 x.c4) := hc 4 _ rfl
      have c5 : wr.cell? ⟨b, off + k * 8 + 5, none⟩ = some (.slice x.A5 x.n5 x.c5) := hc 5 _ rfl
      have c6 : wr.cell? ⟨b, off + k * 8 + 6, none⟩ = some (.slice x.A6 x.n6 x.c6) := hc 6 _ rfl
      have c7 : wr.cell? ⟨b, off + k * 8 + 7, none⟩ = some (.int .i64 x.p7) := hc 7 _ rfl
      clear hb hzz hc
      go_wp2_with fail
      refine Calls.mono (sz_package x.p0 x.p1 x.p2 x.A3 x.n3 x.c3 x.A4 x.n4 x.c4 x.A5 x.n5 x.c5 x.A6 x.n6 x.c6 x.p7 (left - (n : Int) - (S : Int)) _ HX.out.1.1 HX.out.2.1.1 HX.out.2.2.1.1 HX.out.2.2.2.1 (by first | (have := HT2.out; omega) | (simpa using hf)) (by omega)) ?_
      rintro e w1 ⟨rfl, hb1⟩
      have HB1 := Lib.hid (below_trans HB.out hb1 (Nat.le_refl _))
      have hd1 : decide (left - (n : Int) - (S : Int) - (x.n3 : Int) - (x.n4 : Int) - (x.n5 : Int) - (x.n6 : Int) < 0) = false := by first | (have := HT2.out; simp; omega) | (simp; omega)
      clear hb1 c0 c1 c2 c3 c4 c5 c6 c7
      go_wp2_with fail
      go_roundw
      case rel => exact ⟨k + 1, S + (x.n3 + x.n4 + x.n5 + x.n6), by omega, by go_num, (by first | go_num | (congr 1; push_cast; omega)), HT1, Lib.hid (by have := HT2.out; first | omega | (push_cast; omega)), HB1.out⟩
      case measure => simp [intOf]; omega
    · obtain rfl : k = n := by omega
      have hh := hS.out
      rw [List.take_of_length_le (by rw [List.length_map, HL.out]; omega), hT.out] at hh
      subst hh
      clear hb hS
      go_wp2_with fail
      go_ret
      exact ⟨congrArg (fun z => Ending.returned (Value.int .i64 z)) (by push_cast; omega), HB.out⟩

theorem szno_packages (xs : List DPackage) (A : Option Addr) (n c lo hi : Nat) (left : Int) (w : World) (hr : RdPackage w lo hi A n xs) (h : ¬ (((n + MPackage.szs (xs.map DPackage.dat) : Nat) : Int) ≤ left)) (hl : left ≤ 1048576) (hl0 : 0 ≤ left) :
    Calls Tryz.prog 36 #[.slice A n c, .int .i64 left] w (Says (.int .i64 (-1)) w) := by
  have HL := Lib.hid hr.len
  have hn := hr.1
  have HR := Lib.hid hr
  clear hr
  obtain ⟨T, hT⟩ : ∃ T, Hid (MPackage.szs (xs.map DPackage.dat) = T) := ⟨_, Lib.hid rfl⟩
  rw [hT.out] at h
  by_cases hn0 : left < (n : Int)
  · have hd0 : decide (left - (n : Int) < 0) = true := by simp; omega
    go_enter Tryz.func36, Tryz.ntmps36
    go_wp2_with fail
    go_ret
    exact ⟨rfl, Below.refl _ _⟩
  · skip
    have hd0 : decide (left - (n : Int) < 0) = false := by simp; omega
    go_enter Tryz.func36, Tryz.ntmps36
    go_wp2_with fail
    go_loopw [1, 5] (fun q i wr => ∃ (k S : Nat), k ≤ n ∧ i = .int .i64 k ∧ q = .int .i64 (left - (n : Int) - (S : Int)) ∧ Hid (S = MPackage.szs ((xs.map DPackage.dat).take k)) ∧ Hid ((n : Int) + (S : Int) ≤ left) ∧ Below w.heap.size w wr) (fun _ i _ => n - (intOf i).toNat)
    case atStart => exact ⟨0, 0, Nat.zero_le _, rfl, by simp, Lib.hid rfl, Lib.hid (by simp at hd0 ⊢; omega), Below.refl _ _⟩
    case round =>
      obtain ⟨k, S, hk, rfl, rfl, hS, hSl, hb⟩ := hrel
      have HB := Lib.hid hb
      by_cases hlt : k < n
      · obtain ⟨b, off, x, rfl, _, _, hzz, hc⟩ := rd_elem DPackage.len (HR.out.new hb).2.1 HL.out hlt
        have HX := Lib.hid ((HR.out.new hb).at_ hzz)
        have HT1 : Hid (S + (x.n3 + x.n4 + x.n5 + x.n6) = MPackage.szs ((xs.map DPackage.dat).take (k + 1))) := Lib.hid (by
          rw [MPackage.szs_one (xs.map DPackage.dat) k x.dat (by rw [List.getElem?_map, hzz]; rfl), ← hS.out, DPackage.rd_sz HX.out])
        have HT2 : Hid (S + (x.n3 + x.n4 + x.n5 + x.n6) ≤ T) := Lib.hid (by rw [HT1.out, ← hT.out]; exact MPackage.szs_le _ _)
        have c0 : wr.cell? ⟨b, off + k * 8, none⟩ = some (.int .i64 x.p0) := hc 0 _ rfl
        have c1 : wr.cell? ⟨b, off + k * 8 + 1, none⟩ = some (.int .i64 x.p1) := hc 1 _ rfl
        have c2 : wr.cell? ⟨b, off + k * 8 + 2, none⟩ = some (.int .i64 x.p2) := hc 2 _ rfl
        have c3 : wr.cell? ⟨b, off + k * 8 + 3, none⟩ = some (.slice x.A3 x.n3 x.c3) := hc 3 _ rfl
        have c4 : wr.cell? ⟨b, off + k * 8 + 4, none⟩ = some (.slice x.A4 x.n4 x.c4) := hc 4 _ rfl
        have c5 : wr.cell? ⟨b, off + k * 8 + 5, none⟩ = some (.slice x.A5 x.n5 x.c5) := hc 5 _ rfl
        have c6 : wr.cell? ⟨b, off + k * 8 + 6, none⟩ = some (.slice x.A6 x.n6 x.c6) := hc 6 _ rfl
        have c7 : wr.cell? ⟨b, off + k * 8 + 7, none⟩ = some (.int .i64 x.p7) := hc 7 _ rfl
        clear hb hzz hc
        by_cases hf : (x.n3 : Int) + (x.n4 : Int) + (x.n5 : Int) + (x.n6 : Int) ≤ left - (n : Int) - (S : Int)
        · skip
          go_wp2_with fail
          refine Calls.mono (sz_package x.p0 x.p1 x.p2 x.A3 x.n3 x.c3 x.A4 x.n4 x.c4 x.A5 x.n5 x.c5 x.A6 x.n6 x.c6 x.p7 (left - (n : Int) - (S : Int)) _ HX.out.1.1 HX.out.2.1.1 HX.out.2.2.1.1 HX.out.2.2.2.1 (by first | (have := HT2.out; omega) | (simpa using hf)) (by omega)) ?_
          rintro e w1 ⟨rfl, hb1⟩
          have HB1 := Lib.hid (below_trans HB.out hb1 (Nat.le_refl _))
          have hd1 : decide (left - (n : Int) - (S : Int) - (x.n3 : Int) - (x.n4 : Int) - (x.n5 : Int) - (x.n6 : Int) < 0) = false := by first | (have := HT2.out; simp; omega) | (simp; omega)
          clear hb1 c0 c1 c2 c3 c4 c5 c6 c7
          go_wp2_with fail
          go_roundw
          case rel => exact ⟨k + 1, S + (x.n3 + x.n4 + x.n5 + x.n6), by omega, by go_num, (by first | go_num | (congr 1; push_cast; omega)), HT1, Lib.hid (by first | omega | (push_cast; omega)), HB1.out⟩
          case measure => simp [intOf]; omega
        · skip
          go_wp2_with fail
          refine Calls.mono (szno_package x.p0 x.p1 x.p2 x.A3 x.n3 x.c3 x.A4 x.n4 x.c4 x.A5 x.n5 x.c5 x.A6 x.n6 x.c6 x.p7 (left - (n : Int) - (S : Int)) _ HX.out.1.1 HX.out.2.1.1 HX.out.2.2.1.1 HX.out.2.2.2.1 (by omega) (by omega) (by have := hSl.out; omega)) ?_
          rintro e w1 ⟨rfl, hb1⟩
          have HB1 := Lib.hid (below_trans HB.out hb1 (Nat.le_refl _))
          clear hb1 c0 c1 c2 c3 c4 c5 c6 c7
          go_wp2_with fail
          go_ret
          exact ⟨rfl, HB1.out⟩
      · exfalso
        have hh := hS.out
        rw [List.take_of_length_le (by rw [List.length_map, HL.out]; omega), hT.out] at hh
        have := hSl.out
        omega

end Go.Proofs.YtkegapaococmcaaGreat
namespace Go.Proofs.YtkegapaococmcaaGreat
open Go Go.ChangeShapes Go.WideShapes Go.ChangeAt Go.RowKit Go.Lib
set_option linter.unusedVariables false
set_option linter.unusedSimpArgs false
set_option maxRecDepth 100000
set_option maxHeartbeats 4000000

theorem eq_packages_same (xs ys : List DPackage) (A A' : Option Addr) (n n' c c' lo hi lo' hi' : Nat) (w : World) (hd : ys.map DPackage.dat = xs.map DPackage.dat) (hn : n ≤ 1048576) (hz : ∀ x ∈ xs, x.dat.sz ≤ 1048576) (hr : RdPackage w lo hi A n xs) (hr' : RdPackage w lo' hi' A' n' ys) :
    Calls Tryz.prog 58 #[.slice A n c, .slice A' n' c'] w (Says (.bool true) w) := by
  have HL := Lib.hid hr.len
  have HL' := Lib.hid hr'.len
  obtain rfl : n' = n := by have := congrArg List.length hd; simp only [List.length_map] at this; rw [← HL.out, ← HL'.out, this]
  have HD := Lib.hid hd
  have HZS := Lib.hid hz
  have HR := Lib.hid hr
  have HR' := Lib.hid hr'
  clear hr hr' hd hz
  go_enter Tryz.func58, Tryz.ntmps58
  go_wp2_with fail
  go_loopw [5] (fun i wr => ∃ k : Nat, k ≤ n' ∧ i = .int .i64 k ∧ Below w.heap.size w wr) (fun i _ => n' - (intOf i).toNat)
  case atStart => exact ⟨0, Nat.zero_le _, rfl, Below.refl _ _⟩
  case round =>
    obtain ⟨k, hk, rfl, hb⟩ := hrel
    have HB := Lib.hid hb
    by_cases hlt : k < n'
    · obtain ⟨b, off, x, rfl, _, _, hzz, hc⟩ := rd_elem DPackage.len (HR.out.new hb).2.1 HL.out hlt
      obtain ⟨b', off', y, rfl, _, _, hzz', hc'⟩ := rd_elem DPackage.len (HR'.out.new hb).2.1 HL'.out hlt
      have HX := Lib.hid ((HR.out.new hb).at_ hzz)
      have HY := Lib.hid ((HR'.out.new hb).at_ hzz')
      have hxz := HZS.out x (List.mem_of_getElem? hzz)
      rw [DPackage.rd_sz HX.out] at hxz
      have hxy : y.dat = x.dat := map_get_eq HD.out hzz hzz'
      have HLX := DPackage.rd_lens HX.out
      have HLY := DPackage.rd_lens HY.out
      obtain ⟨yp0, yp1, yp2, A3_, n3_, c3_, l3_, A4_, n4_, c4_, l4_, A5_, n5_, c5_, l5_, A6_, n6_, c6_, l6_, yp7⟩ := y
      simp only [DPackage.dat, MPackage.mk.injEq] at hxy
      obtain ⟨rfl, rfl, rfl, rfl, rfl, rfl, rfl, rfl⟩ := hxy
      dsimp only at HLX HLY
      obtain rfl : n3_ = x.n3 := by omega
      obtain rfl : n4_ = x.n4 := by omega
      obtain rfl : n5_ = x.n5 := by omega
      obtain rfl : n6_ = x.n6 := by omega
      clear HLX HLY
      have c0 : wr.cell? ⟨b, off + k * 8, none⟩ = _ := hc 0 _ rfl
      have c1 := hc 1 _ rfl
      have c2 := hc 2 _ rfl
      have c3 := hc 3 _ rfl
      have c4 := hc 4 _ rfl
      have c5 := hc 5 _ rfl
      have c6 := hc 6 _ rfl
      have c7 := hc 7 _ rfl
      have c0' : wr.cell? ⟨b', off' + k * 8, none⟩ = _ := hc' 0 _ rfl
      have c1' := hc' 1 _ rfl
      have c2' := hc' 2 _ rfl
      have c3' := hc' 3 _ rfl
      have c4' := hc' 4 _ rfl
      have c5' := hc' 5 _ rfl
      have c6' := hc' 6 _ rfl
      have c7' := hc' 7 _ rfl
      dsimp only at c0 c0' c1 c1' c2 c2' c3 c3' c4 c4' c5 c5' c6 c6' c7 c7'
      clear hb hzz hzz' hc hc'
      go_wp2_with fail
      have HB2 := Lib.hid HB.out.drew
      go_still_tail 8, (by kernel_rfl)
      change wpList _ _ _ _ _ wr.drew
      replace HX := Lib.hid (show x.rd wr.drew lo hi from DPackage.rd_keep HX.out fun _ _ _ _ => rfl)
      replace HY := Lib.hid (DPackage.rd_keep (w' := wr.drew) HY.out fun _ _ _ _ => rfl)
      generalize wr.drew = w2 at HB2 HX HY ⊢
      go_wp2_with fail
      refine (eq_package_same x.p0 x.p1 x.p2 x.l3 x.n3 x.A3 A3_ x.c3 c3_ _ _ _ _ x.l4 x.n4 x.A4 A4_ x.c4 c4_ _ _ _ _ x.l5 x.n5 x.A5 A5_ x.c5 c5_ _ _ _ _ x.l6 x.n6 x.A6 A6_ x.c6 c6_ _ _ _ _ x.p7 _ (by omega) (by omega) (by omega) (by omega) HX.out.1.2 HX.out.2.1.2 HX.out.2.2.1.2 HX.out.2.2.2.2 HY.out.1.2 HY.out.2.1.2 HY.out.2.2.1.2 HY.out.2.2.2.2).mono ?_
      rintro e w1 ⟨rfl, hb1⟩
      have HB1 := Lib.hid (below_trans HB2.out hb1 (Nat.le_refl _))
      clear hb1
      go_wp2_with fail
      go_roundw
      case rel => exact ⟨k + 1, by omega, by go_num, HB1.out⟩
      case measure => simp [intOf]; omega
    · clear hb
      obtain rfl : k = n' := by omega
      go_wp2_with fail
      go_ret
      exact ⟨rfl, HB.out⟩

end Go.Proofs.YtkegapaococmcaaGreat
namespace Go.Proofs.YtkegapaococmcaaGreat
open Go Go.ChangeShapes Go.WideShapes Go.ChangeAt Go.RowKit Go.Lib
set_option linter.unusedVariables false
set_option linter.unusedSimpArgs false
set_option maxRecDepth 100000
set_option maxHeartbeats 4000000

theorem mark_packages (xs : List DPackage) (A : Option Addr) (n c lo hi k0 : Nat) (w : World) (hn : n ≤ 1048576) (hz : ∀ x ∈ xs, x.dat.sz ≤ 1048576) (hk0 : k0 + DPackage.cnts xs ≤ 4294967296) (hr : FrPackage w lo hi A n c xs) (hw : hi ≤ w.heap.size) :
    Calls Tryz.prog 64 #[.slice A n c, .int .i64 (k0 : Int)] w (fun e w' => e = .returned (.int .i64 ((k0 + DPackage.cnts xs : Nat) : Int)) ∧ Chg lo hi w w') := by
  have HL := Lib.hid hr.rd.len
  have HZS := Lib.hid hz
  obtain ⟨_, m, hlm, hmh, hrow0, hfl⟩ := hr
  by_cases h0 : 0 < n
  · obtain ⟨g, cap, rfl, hlo, hhi, hcap, rfl, hcm, f, hrow, hf⟩ := hrow0.row h0
    have HR := Lib.hid (suf_row hrow hf)
    have HF := Lib.hid hfl
    clear hrow hf hrow0 hfl hz
    go_enter Tryz.func64, Tryz.ntmps64
    go_wp2_with fail
    go_loopw [1, 5] (fun q i wr => ∃ (k S m' : Nat), k ≤ n ∧ i = .int .i64 k ∧ q = .int .i64 (S : Int) ∧ Hid (S = k0 + DPackage.cnts (xs.take k)) ∧ Suf wr g 119 (c * 8) (xs.flatMap DPackage.cells) (k * 8) ∧ m ≤ m' ∧ Hid (DPackage.frl wr m' hi (xs.drop k)) ∧ Chg lo hi w wr) (fun _ i _ => n - (intOf i).toNat)
    case atStart => exact ⟨0, k0, m, Nat.zero_le _, rfl, rfl, Lib.hid (by simp [DPackage.cnts]), HR.out.skip (by omega), Nat.le_refl _, HF, Chg.refl _ _ _⟩
    case round =>
      obtain ⟨k, S, m', hk, rfl, rfl, hS, hrow, hmm, hfl, hb⟩ := hrel
      have HB := Lib.hid hb
      by_cases hlt : k < n
      · have hcc : k * 8 + 8 ≤ c * 8 := by omega
        have hxk : xs[k]? = some (xs[k]'(by have := HL.out; omega)) := List.getElem?_eq_getElem _
        generalize hxe : xs[k]'(by have := HL.out; omega) = x at hxk
        clear hxe
        have HG := Lib.hid (fun j u => flat_get DPackage.len xs k j x u hxk)
        have HX := Lib.hid hxk
        obtain ⟨m2, h1, h2, hfr, hfl2⟩ := DPackage.frl_drop hfl.out hxk
        have HF2 := Lib.hid hfl2
        have hxz := HZS.out x (List.mem_of_getElem? hxk)
        rw [DPackage.rd_sz (DPackage.fr_rd hfr)] at hxz
        obtain ⟨lo3, hi3, lo4, hi4, lo5, hi5, lo6, hi6, F3, F4, F5, F6, hsep⟩ := hfr
        unfold SepPackage at hsep
        replace F3 := Lib.hid F3
        replace F4 := Lib.hid F4
        replace F5 := Lib.hid F5
        replace F6 := Lib.hid F6
        have HS1 := Lib.hid (show S + x.cnt = k0 + DPackage.cnts (xs.take (k + 1)) by rw [DPackage.cnts_one xs k x hxk, hS.out]; omega)
        have hS1 : S + x.cnt ≤ 4294967296 := by rw [HS1.out]; exact Nat.le_trans (Nat.add_le_add_left (DPackage.cnts_le xs (k + 1)) k0) hk0
        have hSb : S + ((x.n3 * 7) + (x.n4 * 3) + (x.n5 * 8) + (x.n6 * 4) + 4) ≤ 4294967296 := hS1
        have HW := Lib.hid hrow
        clear hrow hb hfl hfl2 hxk
        obtain ⟨q0, e0⟩ := HW.out.some (j := k * 8) (by omega)
        have g0 := HW.out.frozen (k * 8)
        obtain ⟨q1, e1⟩ := HW.out.some (j := k * 8 + 1) (by omega)
        have g1 := HW.out.frozen (k * 8 + 1)
        obtain ⟨q2, e2⟩ := HW.out.some (j := k * 8 + 2) (by omega)
        have g2 := HW.out.frozen (k * 8 + 2)
        have z3 : wr.cell? ⟨g, k * 8 + 3, none⟩ = some (.slice x.A3 x.n3 x.c3) := HW.out.cell (by omega) (by omega) (HG.out 3 _ rfl)
        go_wp2_with fail
        refine Calls.mono (mark_grant (cGrant x.l3) x.A3 x.n3 x.c3 lo3 hi3 (S + 1 + 1 + 1) _ (by omega) (by omega) (by repeat (first | exact F3.out.2 | refine Fr.put ?_ (by left; show g < _; omega) _))) ?_
        rintro e v1 ⟨rfl, _, hc, hz1⟩
        replace HW := Lib.hid ((show Suf _ g 119 (c * 8) (xs.flatMap DPackage.cells) (k * 8 + 3) from ((((((HW.out.skip (by omega)).step).skip (by omega)).step).skip (by omega)).step)).chg hc (by omega))
        replace F4 := Lib.hid (And.intro F4.out.1 (Fr.chg (show Fr _ lo4 hi4 226 3 x.A4 x.n4 x.c4 (cFlow x.l4) from (by repeat (first | exact F4.out.2 | refine Fr.put ?_ (by left; show g < _; omega) _))) hc (by omega)))
        replace F5 := Lib.hid (And.intro F5.out.1 (Fr.chg (show Fr _ lo5 hi5 160 8 x.A5 x.n5 x.c5 (cRule x.l5) from (by repeat (first | exact F5.out.2 | refine Fr.put ?_ (by left; show g < _; omega) _))) hc (by omega)))
        replace F6 := Lib.hid (And.intro F6.out.1 (Fr.chg (show Fr _ lo6 hi6 228 4 x.A6 x.n6 x.c6 (cOp x.l6) from (by repeat (first | exact F6.out.2 | refine Fr.put ?_ (by left; show g < _; omega) _))) hc (by omega)))
        replace HF2 := Lib.hid (DPackage.frl_keep HF2.out (fun b h1 h2 h3 => (hc.block b (by first | exact h3 | simpa [World.setCell] using h3) (by omega)).trans (by
          have hne : b ≠ g := by omega
          exact (Below.heap_setCell _ _ _ _ hne).trans ((Below.heap_setCell _ _ _ _ hne).trans ((Below.heap_setCell _ _ _ _ hne).trans (rfl))))))
        replace HB := Lib.hid (Chg.trans (((HB.out.set_ (.inl ⟨hlo, by show g < hi; omega⟩) _).set_ (.inl ⟨hlo, by show g < hi; omega⟩) _).set_ (.inl ⟨hlo, by show g < hi; omega⟩) _) (hc.mono (by omega) (.inl (by omega))))
        clear hc hz1 F3 z3 e0 g0 e1 g1 e2 g2
        have z4 : v1.cell? ⟨g, k * 8 + 4, none⟩ = some (.slice x.A4 x.n4 x.c4) := HW.out.cell (by omega) (by omega) (HG.out 4 _ rfl)
        go_wp2_with fail
        refine Calls.mono (mark_flow (cFlow x.l4) x.A4 x.n4 x.c4 lo4 hi4 (S + 1 + 1 + 1 + x.n3 * 7) _ (by omega) (by omega) (F4.out.2)) ?_
        rintro e v2 ⟨rfl, _, hc, hz2⟩
        replace HW := Lib.hid (HW.out.chg hc (by omega))
        replace F5 := Lib.hid (And.intro F5.out.1 ((F5.out.2).chg hc (by omega)))
        replace F6 := Lib.hid (And.intro F6.out.1 ((F6.out.2).chg hc (by omega)))
        replace HF2 := Lib.hid (DPackage.frl_keep HF2.out (fun b h1 h2 h3 => hc.block b h3 (by omega)))
        replace HB := Lib.hid (Chg.trans HB.out (hc.mono (by omega) (.inl (by omega))))
        clear hc hz2 F4 z4
        have z5 : v2.cell? ⟨g, k * 8 + 5, none⟩ = some (.slice x.A5 x.n5 x.c5) := HW.out.cell (by omega) (by omega) (HG.out 5 _ rfl)
        go_wp2_with fail
        refine Calls.mono (mark_rule (cRule x.l5) x.A5 x.n5 x.c5 lo5 hi5 (S + 1 + 1 + 1 + x.n3 * 7 + x.n4 * 3) _ (by omega) (by omega) (F5.out.2)) ?_
        rintro e v3 ⟨rfl, _, hc, hz3⟩
        replace HW := Lib.hid (HW.out.chg hc (by omega))
        replace F6 := Lib.hid (And.intro F6.out.1 ((F6.out.2).chg hc (by omega)))
        replace HF2 := Lib.hid (DPackage.frl_keep HF2.out (fun b h1 h2 h3 => hc.block b h3 (by omega)))
        replace HB := Lib.hid (Chg.trans HB.out (hc.mono (by omega) (.inl (by omega))))
        clear hc hz3 F5 z5
        have z6 : v3.cell? ⟨g, k * 8 + 6, none⟩ = some (.slice x.A6 x.n6 x.c6) := HW.out.cell (by omega) (by omega) (HG.out 6 _ rfl)
        go_wp2_with fail
        refine Calls.mono (mark_op (cOp x.l6) x.A6 x.n6 x.c6 lo6 hi6 (S + 1 + 1 + 1 + x.n3 * 7 + x.n4 * 3 + x.n5 * 8) _ (by omega) (by omega) (F6.out.2)) ?_
        rintro e v4 ⟨rfl, _, hc, hz4⟩
        replace HW := Lib.hid (HW.out.chg hc (by omega))
        replace HF2 := Lib.hid (DPackage.frl_keep HF2.out (fun b h1 h2 h3 => hc.block b h3 (by omega)))
        replace HB := Lib.hid (Chg.trans HB.out (hc.mono (by omega) (.inl (by omega))))
        clear hc hz4 F6 z6
        obtain ⟨q7, e7⟩ := HW.out.some (j := k * 8 + 7) (by omega)
        have g7 := HW.out.frozen (k * 8 + 7)
        go_wp2_with fail
        go_roundw
        case rel =>
          refine ⟨k + 1, S + x.cnt, m2, by omega, by go_num, ?_, HS1, (((HW.out.skip (i' := k * 8 + 7) (by omega)).step).skip (by omega)), by omega, ?_, (HB.out.set_ (.inl ⟨hlo, by show g < hi; omega⟩) _)⟩
          · simp only [DPackage.cnt]; first | go_num | (congr 1; push_cast; omega)
          · exact Lib.hid (DPackage.frl_keep HF2.out fun b h1 h2 h3 => by
              have hne : b ≠ g := by omega
              exact (Below.heap_setCell _ _ _ _ hne).trans (rfl))
        case measure => simp [intOf]; omega
      · obtain rfl : k = n := by omega
        have hh := hS.out
        rw [List.take_of_length_le (by have := HL.out; omega)] at hh
        subst hh
        clear hrow hb hS
        go_wp2_with fail
        go_ret
        exact ⟨rfl, HB.out⟩
  · obtain rfl : n = 0 := by omega
    have hx : xs = [] := List.eq_nil_of_length_eq_zero (by have := HL.out; omega)
    subst hx
    clear hrow0 hfl h0 hz
    go_enter Tryz.func64, Tryz.ntmps64
    go_wp2_with fail
    go_loopw [1, 5] (fun q i wr => q = .int .i64 (k0 : Int) ∧ i = .int .i64 0 ∧ wr = w) (fun _ i _ => 0)
    case atStart => exact ⟨rfl, rfl, rfl⟩
    case round =>
      obtain ⟨rfl, rfl, rfl⟩ := hrel
      go_wp2_with fail
      go_ret
      exact ⟨by simp [DPackage.cnts], Chg.refl _ _ _⟩

end Go.Proofs.YtkegapaococmcaaGreat
namespace Go.Proofs.YtkegapaococmcaaGreat
open Go Go.ChangeShapes Go.WideShapes Go.ChangeAt Go.RowKit Go.Lib
set_option linter.unusedVariables false
set_option linter.unusedSimpArgs false
set_option maxRecDepth 100000
set_option maxHeartbeats 4000000

/-- A Browser as it lies in memory. -/
structure DBrowser where
  p0 : Int
  A1 : Option Addr
  n1 : Nat
  c1 : Nat
  l1 : List DTab
  A2 : Option Addr
  n2 : Nat
  c2 : Nat
  l2 : List DPackage
  A3 : Option Addr
  n3 : Nat
  c3 : Nat
  l3 : List TGrant
  A4 : Option Addr
  n4 : Nat
  c4 : Nat
  l4 : List TLimit
  A5 : Option Addr
  n5 : Nat
  c5 : Nat
  l5 : List TRule
  A6 : Option Addr
  n6 : Nat
  c6 : Nat
  l6 : List TStored
  p7 : Int
/-- A Browser as data. -/
structure MBrowser where
  p0 : Int
  l1 : List MTab
  l2 : List MPackage
  l3 : List TGrant
  l4 : List TLimit
  l5 : List TRule
  l6 : List TStored
  p7 : Int
def DBrowser.dat (x : DBrowser) : MBrowser := ⟨x.p0, x.l1.map DTab.dat, x.l2.map DPackage.dat, x.l3, x.l4, x.l5, x.l6, x.p7⟩
def MBrowser.ok (x : MBrowser) : Prop := (Lit.int .i64 x.p0).wf = true ∧ (∀ t ∈ x.l1, t.ok) ∧ (∀ t ∈ x.l2, t.ok) ∧ cGrantOk x.l3 ∧ cLimitOk x.l4 ∧ cRuleOk x.l5 ∧ cStoredOk x.l6 ∧ (Lit.int .i64 x.p7).wf = true
/-- How many elements it leads to. -/
def MBrowser.sz (x : MBrowser) : Nat := (x.l1.length + MTab.szs x.l1) + (x.l2.length + MPackage.szs x.l2) + x.l3.length + x.l4.length + x.l5.length + x.l6.length
def DBrowser.cnt (x : DBrowser) : Nat := (DTab.cnts x.l1) + (DPackage.cnts x.l2) + (x.n3 * 7) + (x.n4 * 4) + (x.n5 * 8) + (x.n6 * 4)
/-- Its slices read so, in blocks from lo on and below hi. -/
def DBrowser.rd (w : World) (lo hi : Nat) (x : DBrowser) : Prop := RdTab w lo hi x.A1 x.n1 x.l1 ∧ RdPackage w lo hi x.A2 x.n2 x.l2 ∧ (x.n3 ≤ 9223372036854775807 ∧ Rd w lo hi 7 x.A3 x.n3 (cGrant x.l3)) ∧ (x.n4 ≤ 9223372036854775807 ∧ Rd w lo hi 4 x.A4 x.n4 (cLimit x.l4)) ∧ (x.n5 ≤ 9223372036854775807 ∧ Rd w lo hi 8 x.A5 x.n5 (cRule x.l5)) ∧ (x.n6 ≤ 9223372036854775807 ∧ Rd w lo hi 4 x.A6 x.n6 (cStored x.l6))
/-- Its slices are the maker's own, one behind the other. -/
def DBrowser.fr (w : World) (lo hi : Nat) (x : DBrowser) : Prop := ∃ (lo1 hi1 lo2 hi2 lo3 hi3 lo4 hi4 lo5 hi5 lo6 hi6 : Nat), FrTab w lo1 hi1 x.A1 x.n1 x.c1 x.l1 ∧ FrPackage w lo2 hi2 x.A2 x.n2 x.c2 x.l2 ∧ (x.n3 ≤ 9223372036854775807 ∧ Fr w lo3 hi3 114 7 x.A3 x.n3 x.c3 (cGrant x.l3)) ∧ (x.n4 ≤ 9223372036854775807 ∧ Fr w lo4 hi4 57 4 x.A4 x.n4 x.c4 (cLimit x.l4)) ∧ (x.n5 ≤ 9223372036854775807 ∧ Fr w lo5 hi5 160 8 x.A5 x.n5 x.c5 (cRule x.l5)) ∧ (x.n6 ≤ 9223372036854775807 ∧ Fr w lo6 hi6 165 4 x.A6 x.n6 x.c6 (cStored x.l6)) ∧ lo ≤ lo1 ∧ lo1 ≤ hi1 ∧ hi1 ≤ lo2 ∧ lo2 ≤ hi2 ∧ hi2 ≤ lo3 ∧ lo3 ≤ hi3 ∧ hi3 ≤ lo4 ∧ lo4 ≤ hi4 ∧ hi4 ≤ lo5 ∧ lo5 ≤ hi5 ∧ hi5 ≤ lo6 ∧ lo6 ≤ hi6 ∧ hi6 ≤ hi
section
variable {w w' : World} {lo hi lo' hi' : Nat} {x : DBrowser}
theorem DBrowser.rd.keep (h : x.rd w lo hi) (hk : ∀ b, lo ≤ b → b < hi → b < w.heap.size → w'.heap[b]? = w.heap[b]?) : x.rd w' lo hi := by
  obtain ⟨h1, h2, h3, h4, h5, h6⟩ := h
  exact ⟨h1.keep (hk), h2.keep (hk), ⟨h3.1, h3.2.keep (hk)⟩, ⟨h4.1, h4.2.keep (hk)⟩, ⟨h5.1, h5.2.keep (hk)⟩, ⟨h6.1, h6.2.keep (hk)⟩⟩
theorem DBrowser.rd.new (h : x.rd w lo hi) (hb : Below w.heap.size w w') : x.rd w' lo hi := h.keep fun b _ _ h3 => hb.block b h3
theorem DBrowser.rd.alloc (h : x.rd w lo hi) (o : Obj) : x.rd (w.alloc o) lo hi := h.keep fun b _ _ h3 => Below.heap_alloc w o b h3
theorem DBrowser.rd.chg (h : x.rd w lo hi) (hc : Chg lo' hi' w w') (hd : hi ≤ lo' ∨ hi' ≤ lo ∨ hi' ≤ lo') : x.rd w' lo hi := h.keep fun b h1 h2 h3 => hc.block b h3 (by omega)
theorem DBrowser.rd.drw (h : x.rd w lo hi) : x.rd w.drew lo hi := h.keep fun _ _ _ _ => rfl
theorem DBrowser.rd.put (h : x.rd w lo hi) {p : Addr} (hp : p.block < lo ∨ hi ≤ p.block) (u : Value) : x.rd (w.setCell p u) lo hi := h.keep fun b h1 h2 _ => Below.heap_setCell w p u b (by rintro rfl; omega)
theorem DBrowser.fr.keep (h : x.fr w lo hi) (hk : ∀ b, lo ≤ b → b < hi → b < w.heap.size → w'.heap[b]? = w.heap[b]?) : x.fr w' lo hi := by
  obtain ⟨lo1, hi1, lo2, hi2, lo3, hi3, lo4, hi4, lo5, hi5, lo6, hi6, h1, h2, h3, h4, h5, h6, d0, d1, d2, d3, d4, d5, d6, d7, d8, d9, d10, d11, d12⟩ := h
  exact ⟨lo1, hi1, lo2, hi2, lo3, hi3, lo4, hi4, lo5, hi5, lo6, hi6, h1.keep (fun b h1 h2 h3 => hk b (by omega) (by omega) h3), h2.keep (fun b h1 h2 h3 => hk b (by omega) (by omega) h3), ⟨h3.1, h3.2.keep (fun b h1 h2 h3 => hk b (by omega) (by omega) h3)⟩, ⟨h4.1, h4.2.keep (fun b h1 h2 h3 => hk b (by omega) (by omega) h3)⟩, ⟨h5.1, h5.2.keep (fun b h1 h2 h3 => hk b (by omega) (by omega) h3)⟩, ⟨h6.1, h6.2.keep (fun b h1 h2 h3 => hk b (by omega) (by omega) h3)⟩, d0, d1, d2, d3, d4, d5, d6, d7, d8, d9, d10, d11, d12⟩
theorem DBrowser.fr.new (h : x.fr w lo hi) (hb : Below w.heap.size w w') : x.fr w' lo hi := h.keep fun b _ _ h3 => hb.block b h3
theorem DBrowser.fr.alloc (h : x.fr w lo hi) (o : Obj) : x.fr (w.alloc o) lo hi := h.keep fun b _ _ h3 => Below.heap_alloc w o b h3
theorem DBrowser.fr.chg (h : x.fr w lo hi) (hc : Chg lo' hi' w w') (hd : hi ≤ lo' ∨ hi' ≤ lo ∨ hi' ≤ lo') : x.fr w' lo hi := h.keep fun b h1 h2 h3 => hc.block b h3 (by omega)
theorem DBrowser.fr.drw (h : x.fr w lo hi) : x.fr w.drew lo hi := h.keep fun _ _ _ _ => rfl
theorem DBrowser.fr.put (h : x.fr w lo hi) {p : Addr} (hp : p.block < lo ∨ hi ≤ p.block) (u : Value) : x.fr (w.setCell p u) lo hi := h.keep fun b h1 h2 _ => Below.heap_setCell w p u b (by rintro rfl; omega)
theorem DBrowser.fr.rd (h : x.fr w lo hi) : x.rd w lo hi := by
  obtain ⟨lo1, hi1, lo2, hi2, lo3, hi3, lo4, hi4, lo5, hi5, lo6, hi6, h1, h2, h3, h4, h5, h6, d0, d1, d2, d3, d4, d5, d6, d7, d8, d9, d10, d11, d12⟩ := h
  exact ⟨h1.rd.mono (by omega) (by omega), h2.rd.mono (by omega) (by omega), ⟨h3.1, h3.2.rd.mono (by omega) (by omega)⟩, ⟨h4.1, h4.2.rd.mono (by omega) (by omega)⟩, ⟨h5.1, h5.2.rd.mono (by omega) (by omega)⟩, ⟨h6.1, h6.2.rd.mono (by omega) (by omega)⟩⟩
theorem DBrowser.rd_nw (hb : Below w.heap.size w w') (h : x.rd w lo hi) : x.rd w' lo hi := h.new hb
theorem DBrowser.fr_nw (hb : Below w.heap.size w w') (h : x.fr w lo hi) : x.fr w' lo hi := h.new hb
theorem DBrowser.rd.len (h : x.rd w lo hi) : x.l1.length = x.n1 ∧ x.l2.length = x.n2 ∧ x.l3.length = x.n3 ∧ x.l4.length = x.n4 ∧ x.l5.length = x.n5 ∧ x.l6.length = x.n6 := by
  obtain ⟨h1, h2, h3, h4, h5, h6⟩ := h
  exact ⟨h1.len, h2.len, rd_len TGrant.len h3.2 (by decide), rd_len TLimit.len h4.2 (by decide), rd_len TRule.len h5.2 (by decide), rd_len TStored.len h6.2 (by decide)⟩
theorem DBrowser.rd.old (h : x.rd w lo hi) : x.rd w 0 w.heap.size := by
  obtain ⟨h1, h2, h3, h4, h5, h6⟩ := h
  exact ⟨h1.old, h2.old, ⟨h3.1, h3.2.old (by decide)⟩, ⟨h4.1, h4.2.old (by decide)⟩, ⟨h5.1, h5.2.old (by decide)⟩, ⟨h6.1, h6.2.old (by decide)⟩⟩
theorem DBrowser.rd.sz (h : x.rd w lo hi) : x.dat.sz = (x.n1 + MTab.szs (x.l1.map DTab.dat)) + (x.n2 + MPackage.szs (x.l2.map DPackage.dat)) + x.n3 + x.n4 + x.n5 + x.n6 := by
  obtain ⟨h1, h2, h3, h4, h5, h6⟩ := h.len
  simp only [MBrowser.sz, DBrowser.dat, List.length_map]
  omega
end

def DBrowser.caps (x : DBrowser) : Prop := x.n3 ≤ x.c3 ∧ x.n4 ≤ x.c4 ∧ x.n5 ≤ x.c5 ∧ x.n6 ≤ x.c6 ∧ (∀ t ∈ x.l1, t.caps) ∧ (∀ t ∈ x.l2, t.caps) ∧ x.n1 ≤ x.c1 ∧ x.n2 ≤ x.c2
theorem DBrowser.fr.caps {w : World} {lo hi : Nat} {x : DBrowser} (h : x.fr w lo hi) : x.caps := by
  obtain ⟨lo1, hi1, lo2, hi2, lo3, hi3, lo4, hi4, lo5, hi5, lo6, hi6, h1, h2, h3, h4, h5, h6, d0, d1, d2, d3, d4, d5, d6, d7, d8, d9, d10, d11, d12⟩ := h
  refine ⟨h3.2.cap, h4.2.cap, h5.2.cap, h6.2.cap, ?_, ?_, ?_, ?_⟩
  · obtain ⟨_, m, _, _, _, hf⟩ := h1
    exact DTab.frl_caps hf
  · obtain ⟨_, m, _, _, _, hf⟩ := h2
    exact DPackage.frl_caps hf
  · obtain ⟨_, m, _, _, hf, _⟩ := h1
    exact hf.cap
  · obtain ⟨_, m, _, _, hf, _⟩ := h2
    exact hf.cap

theorem DBrowser.rd.cnt_le {w : World} {lo hi : Nat} {x : DBrowser} (h : x.rd w lo hi) : x.cnt ≤ 8 * x.dat.sz := by
  rw [h.sz]
  have hl := h.len
  have h1 := DTab.cnts_sz h.1.2.2
  have h2 := DPackage.cnts_sz h.2.1.2.2
  simp only [DBrowser.cnt]
  omega

/-- A call that answers a new Browser of this data. -/
def MakesBrowser (m : MBrowser) (w : World) (e : Ending) (w' : World) : Prop :=
  ∃ y : DBrowser, e = .returned (.agg #[.int .i64 y.p0, .slice y.A1 y.n1 y.c1, .slice y.A2 y.n2 y.c2, .slice y.A3 y.n3 y.c3, .slice y.A4 y.n4 y.c4, .slice y.A5 y.n5 y.c5, .slice y.A6 y.n6 y.c6, .int .i64 y.p7]) ∧ y.dat = m ∧ y.fr w' w.heap.size w'.heap.size ∧ Below w.heap.size w w'

section
variable {H : Type} {enc : TypeId × Value → H}
theorem open_browser {W : World} {base : Nat} {v : Value} {d : DataW H} {p : List MemPlace} (hv : Value.okWide Tryz.prog W .any base 29 v)
    (h : DataW.Trod enc Tryz.prog W 0 (fun _ => true) true 29 v d p) (hlt : ∀ x ∈ p, x.block < W.heap.size) :
    ∃ x : DBrowser, v = .agg #[.int .i64 x.p0, .slice x.A1 x.n1 x.c1, .slice x.A2 x.n2 x.c2, .slice x.A3 x.n3 x.c3, .slice x.A4 x.n4 x.c4, .slice x.A5 x.n5 x.c5, .slice x.A6 x.n6 x.c6, .int .i64 x.p7] ∧ x.rd W 0 W.heap.size ∧ Hid x.dat.ok := by
  obtain ⟨cs, rfl, hsz⟩ := okWide_struct Tryz.underlying29 hv
  obtain ⟨fuel, hq⟩ := h
  obtain ⟨ys, n, _, hx, hlen, hyl, hf⟩ := DataW.trod_struct Tryz.underlying29 hq
  have hx2 := congrArg Prod.snd hx
  simp only at hx2
  subst hx2
  have hlen : cs.size = 8 := hsz.trans (by kernel_rfl)
  have hyl : ys.length = 8 := hyl
  have hlt' : ∀ (i : Nat) (y : DataW H × List MemPlace), ys[i]? = some y → ∀ x ∈ y.2, x.block < W.heap.size := fun i y hy x hx => hlt x (List.mem_flatMap.2 ⟨y, List.mem_of_getElem? hy, hx⟩)
  obtain ⟨cl⟩ := cs
  match cl, hlen with
  | [z0, z1, z2, z3, z4, z5, z6, z7], _ =>
    have h0 := hf 0 _ rfl
    have h0' : DataW.trod enc Tryz.prog W 0 (fun _ => true) true n 3 [z0] = some (ys[0]'(by omega)) := by
      refine Eq.trans ?_ (h0.trans (List.getElem?_eq_getElem (by omega)))
      rfl
    obtain ⟨x0, e0, _, w0⟩ := DataW.trod_int Tryz.underlying3 h0'
    have h1 := hf 1 _ rfl
    have h1' : DataW.trod enc Tryz.prog W 0 (fun _ => true) true n 22 [z1] = some (ys[1]'(by omega)) := by
      refine Eq.trans ?_ (h1.trans (List.getElem?_eq_getElem (by omega)))
      rfl
    obtain ⟨A1, n1, c1, l1, e1, r1, k1⟩ := trod_tabs (d := (ys[1]'(by omega)).1) (p := (ys[1]'(by omega)).2) h1' (hlt' 1 _ (List.getElem?_eq_getElem (by omega)))
    have h2 := hf 2 _ rfl
    have h2' : DataW.trod enc Tryz.prog W 0 (fun _ => true) true n 23 [z2] = some (ys[2]'(by omega)) := by
      refine Eq.trans ?_ (h2.trans (List.getElem?_eq_getElem (by omega)))
      rfl
    obtain ⟨A2, n2, c2, l2, e2, r2, k2⟩ := trod_packages (d := (ys[2]'(by omega)).1) (p := (ys[2]'(by omega)).2) h2' (hlt' 2 _ (List.getElem?_eq_getElem (by omega)))
    have h3 := hf 3 _ rfl
    have h3' : DataW.trod enc Tryz.prog W 0 (fun _ => true) true n 24 [z3] = some (ys[3]'(by omega)) := by
      refine Eq.trans ?_ (h3.trans (List.getElem?_eq_getElem (by omega)))
      rfl
    obtain ⟨A3, n3, c3, l3, e3, m3, r3, k3⟩ := rows_trod (c := TGrant.cells) (fit := TGrant.fit) (d := (ys[3]'(by omega)).1) (p := (ys[3]'(by omega)).2) Tryz.underlying24 (by kernel_rfl) TGrant.len (by decide) (fun h => read_grant h) h3' (hlt' 3 _ (List.getElem?_eq_getElem (by omega)))
    have h4 := hf 4 _ rfl
    have h4' : DataW.trod enc Tryz.prog W 0 (fun _ => true) true n 25 [z4] = some (ys[4]'(by omega)) := by
      refine Eq.trans ?_ (h4.trans (List.getElem?_eq_getElem (by omega)))
      rfl
    obtain ⟨A4, n4, c4, l4, e4, m4, r4, k4⟩ := rows_trod (c := TLimit.cells) (fit := TLimit.fit) (d := (ys[4]'(by omega)).1) (p := (ys[4]'(by omega)).2) Tryz.underlying25 (by kernel_rfl) TLimit.len (by decide) (fun h => read_limit h) h4' (hlt' 4 _ (List.getElem?_eq_getElem (by omega)))
    have h5 := hf 5 _ rfl
    have h5' : DataW.trod enc Tryz.prog W 0 (fun _ => true) true n 26 [z5] = some (ys[5]'(by omega)) := by
      refine Eq.trans ?_ (h5.trans (List.getElem?_eq_getElem (by omega)))
      rfl
    obtain ⟨A5, n5, c5, l5, e5, m5, r5, k5⟩ := rows_trod (c := TRule.cells) (fit := TRule.fit) (d := (ys[5]'(by omega)).1) (p := (ys[5]'(by omega)).2) Tryz.underlying26 (by kernel_rfl) TRule.len (by decide) (fun h => read_rule h) h5' (hlt' 5 _ (List.getElem?_eq_getElem (by omega)))
    have h6 := hf 6 _ rfl
    have h6' : DataW.trod enc Tryz.prog W 0 (fun _ => true) true n 27 [z6] = some (ys[6]'(by omega)) := by
      refine Eq.trans ?_ (h6.trans (List.getElem?_eq_getElem (by omega)))
      rfl
    obtain ⟨A6, n6, c6, l6, e6, m6, r6, k6⟩ := rows_trod (c := TStored.cells) (fit := TStored.fit) (d := (ys[6]'(by omega)).1) (p := (ys[6]'(by omega)).2) Tryz.underlying27 (by kernel_rfl) TStored.len (by decide) (fun h => read_stored h) h6' (hlt' 6 _ (List.getElem?_eq_getElem (by omega)))
    have h7 := hf 7 _ rfl
    have h7' : DataW.trod enc Tryz.prog W 0 (fun _ => true) true n 3 [z7] = some (ys[7]'(by omega)) := by
      refine Eq.trans ?_ (h7.trans (List.getElem?_eq_getElem (by omega)))
      rfl
    obtain ⟨x7, e7, _, w7⟩ := DataW.trod_int Tryz.underlying3 h7'
    refine ⟨⟨x0, A1, n1, c1, l1, A2, n2, c2, l2, A3, n3, c3, l3, A4, n4, c4, l4, A5, n5, c5, l5, A6, n6, c6, l6, x7⟩, ?_, ⟨r1, r2, ⟨Nat.le_trans m3 (by decide), r3⟩, ⟨Nat.le_trans m4 (by decide), r4⟩, ⟨Nat.le_trans m5 (by decide), r5⟩, ⟨Nat.le_trans m6 (by decide), r6⟩⟩, Lib.hid ⟨w0, (fun t ht => by obtain ⟨y, hy, rfl⟩ := List.mem_map.1 ht; exact k1.out y hy), (fun t ht => by obtain ⟨y, hy, rfl⟩ := List.mem_map.1 ht; exact k2.out y hy), k3, k4, k5, k6, w7⟩⟩
    simp only [List.cons.injEq, and_true] at e0 e1 e2 e3 e4 e5 e6 e7
    simp_all
end

theorem to_browser (x : DBrowser) (lo hi : Nat) (w : World) (hz : x.dat.sz ≤ 1048576) (h : x.rd w lo hi) :
    Calls Tryz.prog 12 #[.agg #[.int .i64 x.p0, .slice x.A1 x.n1 x.c1, .slice x.A2 x.n2 x.c2, .slice x.A3 x.n3 x.c3, .slice x.A4 x.n4 x.c4, .slice x.A5 x.n5 x.c5, .slice x.A6 x.n6 x.c6, .int .i64 x.p7]] w (MakesBrowser x.dat w) := by
  have HZ := h.sz
  rw [HZ] at hz
  clear HZ
  have HT : Hid (∀ t ∈ x.l1, t.dat.sz ≤ 1048576) := Lib.hid fun t ht => by
    obtain ⟨i, hi, rfl⟩ := List.mem_iff_getElem.1 ht
    have := MTab.szs_mem (x.l1.map DTab.dat) i (x.l1[i]).dat (by rw [List.getElem?_map, List.getElem?_eq_getElem hi]; rfl)
    omega
  have HP : Hid (∀ t ∈ x.l2, t.dat.sz ≤ 1048576) := Lib.hid fun t ht => by
    obtain ⟨i, hi, rfl⟩ := List.mem_iff_getElem.1 ht
    have := MPackage.szs_mem (x.l2.map DPackage.dat) i (x.l2[i]).dat (by rw [List.getElem?_map, List.getElem?_eq_getElem hi]; rfl)
    omega
  have hz' : x.n1 + x.n2 + x.n3 + x.n4 + x.n5 + x.n6 ≤ 1048576 := by omega
  clear hz
  obtain ⟨h1, h2, h3, h4, h5, h6⟩ := h
  have R1 := Lib.hid h1
  clear h1
  have R2 := Lib.hid h2
  clear h2
  have R3 := Lib.hid h3.2
  clear h3
  have R4 := Lib.hid h4.2
  clear h4
  have R5 := Lib.hid h5.2
  clear h5
  have R6 := Lib.hid h6.2
  clear h6
  have HB := Lib.hid (Below.refl w.heap.size w)
  go_enter Tryz.func12, Tryz.ntmps12
  go_wp2_with fail
  refine Calls.mono (to_tabs x.l1 x.A1 x.n1 x.c1 lo hi _ (by omega) HT.out (R1.out.new (by repeat (first | with_reducible exact Below.refl _ _ | (with_reducible exact HB.out) | (with_reducible refine Below.setCell ?_ (by first | omega | (simp; done) | (simp <;> omega)) _) | (with_reducible refine Below.alloc ?_ (by first | omega | (simp; done) | (simp <;> omega)) _) | (refine Below.alloc ?_ (by first | omega | (simp; done) | (simp <;> omega)) _) | (refine Below.setCell ?_ (by first | omega | (simp; done) | (simp <;> omega)) _))))) ?_
  rintro e w1 ⟨B1, d1, ys1, rfl, E1, F1, hb⟩
  replace E1 := Lib.hid E1
  obtain ⟨hc1, hf1⟩ := bcell hb
  have hs1 := hb.size
  (try simp at hs1)
  replace HB := Lib.hid (show Below w.heap.size w w1 from Below.trans (by repeat (first | with_reducible exact Below.refl _ _ | (with_reducible exact HB.out) | (with_reducible refine Below.setCell ?_ (by first | omega | (simp; done) | (simp <;> omega)) _) | (with_reducible refine Below.alloc ?_ (by first | omega | (simp; done) | (simp <;> omega)) _) | (refine Below.alloc ?_ (by first | omega | (simp; done) | (simp <;> omega)) _) | (refine Below.setCell ?_ (by first | omega | (simp; done) | (simp <;> omega)) _))) (hb.mono (by first | omega | (simp; done) | (simp <;> omega))))
  have z1_0 : w.heap.size < w1.heap.size := by omega
  have z1_1 : w.heap.size + 1 < w1.heap.size := by omega
  have z1_2 : w.heap.size + 1 + 1 < w1.heap.size := by omega
  clear hb
  replace F1 := Lib.hid (F1.mono (lo' := w.heap.size + 3) (by simp) (Nat.le_refl _))
  go_wp2_with fail
  refine Calls.mono (to_packages x.l2 x.A2 x.n2 x.c2 lo hi _ (by omega) HP.out (R2.out.new (by repeat (first | with_reducible exact Below.refl _ _ | (with_reducible exact HB.out) | (with_reducible refine Below.setCell ?_ (by first | omega | (simp; done) | (simp <;> omega)) _) | (with_reducible refine Below.alloc ?_ (by first | omega | (simp; done) | (simp <;> omega)) _) | (refine Below.alloc ?_ (by first | omega | (simp; done) | (simp <;> omega)) _) | (refine Below.setCell ?_ (by first | omega | (simp; done) | (simp <;> omega)) _))))) ?_
  rintro e w2 ⟨B2, d2, ys2, rfl, E2, F2, hb⟩
  replace E2 := Lib.hid E2
  replace F1 := Lib.hid (show FrTab w2 (w.heap.size + 3) (w1.heap.size) B1 x.n1 d1 ys1 from FrTab.new (by repeat (first | with_reducible exact F1.out | (with_reducible refine FrTab.put ?_ (by first | omega | (simp; done) | (simp <;> omega)) _) | (with_reducible refine FrTab.alloc ?_ _))) hb)
  obtain ⟨hc2, hf2⟩ := bcell hb
  have hs2 := hb.size
  (try simp at hs2)
  replace HB := Lib.hid (show Below w.heap.size w w2 from Below.trans (by repeat (first | with_reducible exact Below.refl _ _ | (with_reducible exact HB.out) | (with_reducible refine Below.setCell ?_ (by first | omega | (simp; done) | (simp <;> omega)) _) | (with_reducible refine Below.alloc ?_ (by first | omega | (simp; done) | (simp <;> omega)) _) | (refine Below.alloc ?_ (by first | omega | (simp; done) | (simp <;> omega)) _) | (refine Below.setCell ?_ (by first | omega | (simp; done) | (simp <;> omega)) _))) (hb.mono (by first | omega | (simp; done) | (simp <;> omega))))
  have z2_0 : w.heap.size < w2.heap.size := by omega
  have z2_1 : w.heap.size + 1 < w2.heap.size := by omega
  have z2_2 : w.heap.size + 1 + 1 < w2.heap.size := by omega
  clear hb
  replace F2 := Lib.hid (F2.mono (lo' := w1.heap.size) (by simp) (Nat.le_refl _))
  go_wp2_with fail
  refine Calls.mono (to_grant x.l3 x.A3 x.n3 x.c3 lo hi _ (by omega) (R3.out.new (by repeat (first | with_reducible exact Below.refl _ _ | (with_reducible exact HB.out) | (with_reducible refine Below.setCell ?_ (by first | omega | (simp; done) | (simp <;> omega)) _) | (with_reducible refine Below.alloc ?_ (by first | omega | (simp; done) | (simp <;> omega)) _) | (refine Below.alloc ?_ (by first | omega | (simp; done) | (simp <;> omega)) _) | (refine Below.setCell ?_ (by first | omega | (simp; done) | (simp <;> omega)) _))))) ?_
  rintro e w3 ⟨B3, d3, rfl, F3, hb⟩
  replace F1 := Lib.hid (show FrTab w3 (w.heap.size + 3) (w1.heap.size) B1 x.n1 d1 ys1 from FrTab.new (by repeat (first | with_reducible exact F1.out | (with_reducible refine FrTab.put ?_ (by first | omega | (simp; done) | (simp <;> omega)) _) | (with_reducible refine FrTab.alloc ?_ _))) hb)
  replace F2 := Lib.hid (show FrPackage w3 (w1.heap.size) (w2.heap.size) B2 x.n2 d2 ys2 from FrPackage.new (by repeat (first | with_reducible exact F2.out | (with_reducible refine FrPackage.put ?_ (by first | omega | (simp; done) | (simp <;> omega)) _) | (with_reducible refine FrPackage.alloc ?_ _))) hb)
  obtain ⟨hc3, hf3⟩ := bcell hb
  have hs3 := hb.size
  (try simp at hs3)
  replace HB := Lib.hid (show Below w.heap.size w w3 from Below.trans (by repeat (first | with_reducible exact Below.refl _ _ | (with_reducible exact HB.out) | (with_reducible refine Below.setCell ?_ (by first | omega | (simp; done) | (simp <;> omega)) _) | (with_reducible refine Below.alloc ?_ (by first | omega | (simp; done) | (simp <;> omega)) _) | (refine Below.alloc ?_ (by first | omega | (simp; done) | (simp <;> omega)) _) | (refine Below.setCell ?_ (by first | omega | (simp; done) | (simp <;> omega)) _))) (hb.mono (by first | omega | (simp; done) | (simp <;> omega))))
  have z3_0 : w.heap.size < w3.heap.size := by omega
  have z3_1 : w.heap.size + 1 < w3.heap.size := by omega
  have z3_2 : w.heap.size + 1 + 1 < w3.heap.size := by omega
  clear hb
  replace F3 := Lib.hid (F3.mono (lo' := w2.heap.size) (by simp) (Nat.le_refl _))
  go_wp2_with fail
  refine Calls.mono (to_limit x.l4 x.A4 x.n4 x.c4 lo hi _ (by omega) (R4.out.new (by repeat (first | with_reducible exact Below.refl _ _ | (with_reducible exact HB.out) | (with_reducible refine Below.setCell ?_ (by first | omega | (simp; done) | (simp <;> omega)) _) | (with_reducible refine Below.alloc ?_ (by first | omega | (simp; done) | (simp <;> omega)) _) | (refine Below.alloc ?_ (by first | omega | (simp; done) | (simp <;> omega)) _) | (refine Below.setCell ?_ (by first | omega | (simp; done) | (simp <;> omega)) _))))) ?_
  rintro e w4 ⟨B4, d4, rfl, F4, hb⟩
  replace F1 := Lib.hid (show FrTab w4 (w.heap.size + 3) (w1.heap.size) B1 x.n1 d1 ys1 from FrTab.new (by repeat (first | with_reducible exact F1.out | (with_reducible refine FrTab.put ?_ (by first | omega | (simp; done) | (simp <;> omega)) _) | (with_reducible refine FrTab.alloc ?_ _))) hb)
  replace F2 := Lib.hid (show FrPackage w4 (w1.heap.size) (w2.heap.size) B2 x.n2 d2 ys2 from FrPackage.new (by repeat (first | with_reducible exact F2.out | (with_reducible refine FrPackage.put ?_ (by first | omega | (simp; done) | (simp <;> omega)) _) | (with_reducible refine FrPackage.alloc ?_ _))) hb)
  replace F3 := Lib.hid (show Fr w4 (w2.heap.size) (w3.heap.size) 114 7 B3 x.n3 d3 (cGrant x.l3) from Fr.new (by repeat (first | with_reducible exact F3.out | (with_reducible refine Fr.put ?_ (by first | omega | (simp; done) | (simp <;> omega)) _) | (with_reducible refine Fr.alloc ?_ _))) hb)
  obtain ⟨hc4, hf4⟩ := bcell hb
  have hs4 := hb.size
  (try simp at hs4)
  replace HB := Lib.hid (show Below w.heap.size w w4 from Below.trans (by repeat (first | with_reducible exact Below.refl _ _ | (with_reducible exact HB.out) | (with_reducible refine Below.setCell ?_ (by first | omega | (simp; done) | (simp <;> omega)) _) | (with_reducible refine Below.alloc ?_ (by first | omega | (simp; done) | (simp <;> omega)) _) | (refine Below.alloc ?_ (by first | omega | (simp; done) | (simp <;> omega)) _) | (refine Below.setCell ?_ (by first | omega | (simp; done) | (simp <;> omega)) _))) (hb.mono (by first | omega | (simp; done) | (simp <;> omega))))
  have z4_0 : w.heap.size < w4.heap.size := by omega
  have z4_1 : w.heap.size + 1 < w4.heap.size := by omega
  have z4_2 : w.heap.size + 1 + 1 < w4.heap.size := by omega
  clear hb
  replace F4 := Lib.hid (F4.mono (lo' := w3.heap.size) (by simp) (Nat.le_refl _))
  go_wp2_with fail
  refine Calls.mono (to_rule x.l5 x.A5 x.n5 x.c5 lo hi _ (by omega) (R5.out.new (by repeat (first | with_reducible exact Below.refl _ _ | (with_reducible exact HB.out) | (with_reducible refine Below.setCell ?_ (by first | omega | (simp; done) | (simp <;> omega)) _) | (with_reducible refine Below.alloc ?_ (by first | omega | (simp; done) | (simp <;> omega)) _) | (refine Below.alloc ?_ (by first | omega | (simp; done) | (simp <;> omega)) _) | (refine Below.setCell ?_ (by first | omega | (simp; done) | (simp <;> omega)) _))))) ?_
  rintro e w5 ⟨B5, d5, rfl, F5, hb⟩
  replace F1 := Lib.hid (show FrTab w5 (w.heap.size + 3) (w1.heap.size) B1 x.n1 d1 ys1 from FrTab.new (by repeat (first | with_reducible exact F1.out | (with_reducible refine FrTab.put ?_ (by first | omega | (simp; done) | (simp <;> omega)) _) | (with_reducible refine FrTab.alloc ?_ _))) hb)
  replace F2 := Lib.hid (show FrPackage w5 (w1.heap.size) (w2.heap.size) B2 x.n2 d2 ys2 from FrPackage.new (by repeat (first | with_reducible exact F2.out | (with_reducible refine FrPackage.put ?_ (by first | omega | (simp; done) | (simp <;> omega)) _) | (with_reducible refine FrPackage.alloc ?_ _))) hb)
  replace F3 := Lib.hid (show Fr w5 (w2.heap.size) (w3.heap.size) 114 7 B3 x.n3 d3 (cGrant x.l3) from Fr.new (by repeat (first | with_reducible exact F3.out | (with_reducible refine Fr.put ?_ (by first | omega | (simp; done) | (simp <;> omega)) _) | (with_reducible refine Fr.alloc ?_ _))) hb)
  replace F4 := Lib.hid (show Fr w5 (w3.heap.size) (w4.heap.size) 57 4 B4 x.n4 d4 (cLimit x.l4) from Fr.new (by repeat (first | with_reducible exact F4.out | (with_reducible refine Fr.put ?_ (by first | omega | (simp; done) | (simp <;> omega)) _) | (with_reducible refine Fr.alloc ?_ _))) hb)
  obtain ⟨hc5, hf5⟩ := bcell hb
  have hs5 := hb.size
  (try simp at hs5)
  replace HB := Lib.hid (show Below w.heap.size w w5 from Below.trans (by repeat (first | with_reducible exact Below.refl _ _ | (with_reducible exact HB.out) | (with_reducible refine Below.setCell ?_ (by first | omega | (simp; done) | (simp <;> omega)) _) | (with_reducible refine Below.alloc ?_ (by first | omega | (simp; done) | (simp <;> omega)) _) | (refine Below.alloc ?_ (by first | omega | (simp; done) | (simp <;> omega)) _) | (refine Below.setCell ?_ (by first | omega | (simp; done) | (simp <;> omega)) _))) (hb.mono (by first | omega | (simp; done) | (simp <;> omega))))
  have z5_0 : w.heap.size < w5.heap.size := by omega
  have z5_1 : w.heap.size + 1 < w5.heap.size := by omega
  have z5_2 : w.heap.size + 1 + 1 < w5.heap.size := by omega
  clear hb
  replace F5 := Lib.hid (F5.mono (lo' := w4.heap.size) (by simp) (Nat.le_refl _))
  go_wp2_with fail
  refine Calls.mono (to_stored x.l6 x.A6 x.n6 x.c6 lo hi _ (by omega) (R6.out.new (by repeat (first | with_reducible exact Below.refl _ _ | (with_reducible exact HB.out) | (with_reducible refine Below.setCell ?_ (by first | omega | (simp; done) | (simp <;> omega)) _) | (with_reducible refine Below.alloc ?_ (by first | omega | (simp; done) | (simp <;> omega)) _) | (refine Below.alloc ?_ (by first | omega | (simp; done) | (simp <;> omega)) _) | (refine Below.setCell ?_ (by first | omega | (simp; done) | (simp <;> omega)) _))))) ?_
  rintro e w6 ⟨B6, d6, rfl, F6, hb⟩
  replace F1 := Lib.hid (show FrTab w6 (w.heap.size + 3) (w1.heap.size) B1 x.n1 d1 ys1 from FrTab.new (by repeat (first | with_reducible exact F1.out | (with_reducible refine FrTab.put ?_ (by first | omega | (simp; done) | (simp <;> omega)) _) | (with_reducible refine FrTab.alloc ?_ _))) hb)
  replace F2 := Lib.hid (show FrPackage w6 (w1.heap.size) (w2.heap.size) B2 x.n2 d2 ys2 from FrPackage.new (by repeat (first | with_reducible exact F2.out | (with_reducible refine FrPackage.put ?_ (by first | omega | (simp; done) | (simp <;> omega)) _) | (with_reducible refine FrPackage.alloc ?_ _))) hb)
  replace F3 := Lib.hid (show Fr w6 (w2.heap.size) (w3.heap.size) 114 7 B3 x.n3 d3 (cGrant x.l3) from Fr.new (by repeat (first | with_reducible exact F3.out | (with_reducible refine Fr.put ?_ (by first | omega | (simp; done) | (simp <;> omega)) _) | (with_reducible refine Fr.alloc ?_ _))) hb)
  replace F4 := Lib.hid (show Fr w6 (w3.heap.size) (w4.heap.size) 57 4 B4 x.n4 d4 (cLimit x.l4) from Fr.new (by repeat (first | with_reducible exact F4.out | (with_reducible refine Fr.put ?_ (by first | omega | (simp; done) | (simp <;> omega)) _) | (with_reducible refine Fr.alloc ?_ _))) hb)
  replace F5 := Lib.hid (show Fr w6 (w4.heap.size) (w5.heap.size) 160 8 B5 x.n5 d5 (cRule x.l5) from Fr.new (by repeat (first | with_reducible exact F5.out | (with_reducible refine Fr.put ?_ (by first | omega | (simp; done) | (simp <;> omega)) _) | (with_reducible refine Fr.alloc ?_ _))) hb)
  obtain ⟨hc6, hf6⟩ := bcell hb
  have hs6 := hb.size
  (try simp at hs6)
  replace HB := Lib.hid (show Below w.heap.size w w6 from Below.trans (by repeat (first | with_reducible exact Below.refl _ _ | (with_reducible exact HB.out) | (with_reducible refine Below.setCell ?_ (by first | omega | (simp; done) | (simp <;> omega)) _) | (with_reducible refine Below.alloc ?_ (by first | omega | (simp; done) | (simp <;> omega)) _) | (refine Below.alloc ?_ (by first | omega | (simp; done) | (simp <;> omega)) _) | (refine Below.setCell ?_ (by first | omega | (simp; done) | (simp <;> omega)) _))) (hb.mono (by first | omega | (simp; done) | (simp <;> omega))))
  have z6_0 : w.heap.size < w6.heap.size := by omega
  have z6_1 : w.heap.size + 1 < w6.heap.size := by omega
  have z6_2 : w.heap.size + 1 + 1 < w6.heap.size := by omega
  clear hb
  replace F6 := Lib.hid (F6.mono (lo' := w5.heap.size) (by simp) (Nat.le_refl _))
  go_wp2_with fail
  exact bodyPost_ret (v := .agg #[.int .i64 x.p0, .slice B1 x.n1 d1, .slice B2 x.n2 d2, .slice B3 x.n3 d3, .slice B4 x.n4 d4, .slice B5 x.n5 d5, .slice B6 x.n6 d6, .int .i64 x.p7]) (by simp [results, Tryz.results12, go_sem, hc1, z1_0, z1_1, z1_2, hc2, z2_0, z2_1, z2_2, hc3, z3_0, z3_1, z3_2, hc4, z4_0, z4_1, z4_2, hc5, z5_0, z5_1, z5_2, hc6, z6_0, z6_1, z6_2]) rfl
    ⟨⟨x.p0, B1, x.n1, d1, ys1, B2, x.n2, d2, ys2, B3, x.n3, d3, x.l3, B4, x.n4, d4, x.l4, B5, x.n5, d5, x.l5, B6, x.n6, d6, x.l6, x.p7⟩, rfl, by simp only [DBrowser.dat, E1.out, E2.out],
      ⟨w.heap.size + 3, w1.heap.size, w1.heap.size, w2.heap.size, w2.heap.size, w3.heap.size, w3.heap.size, w4.heap.size, w4.heap.size, w5.heap.size, w5.heap.size, w6.heap.size, (by repeat (first | with_reducible exact F1.out | (with_reducible refine FrTab.put ?_ (by first | omega | (simp; done) | (simp <;> omega)) _) | (with_reducible refine FrTab.alloc ?_ _))), (by repeat (first | with_reducible exact F2.out | (with_reducible refine FrPackage.put ?_ (by first | omega | (simp; done) | (simp <;> omega)) _) | (with_reducible refine FrPackage.alloc ?_ _))), ⟨by dsimp only; omega, (by repeat (first | with_reducible exact F3.out | (with_reducible refine Fr.put ?_ (by first | omega | (simp; done) | (simp <;> omega)) _) | (with_reducible refine Fr.alloc ?_ _)))⟩, ⟨by dsimp only; omega, (by repeat (first | with_reducible exact F4.out | (with_reducible refine Fr.put ?_ (by first | omega | (simp; done) | (simp <;> omega)) _) | (with_reducible refine Fr.alloc ?_ _)))⟩, ⟨by dsimp only; omega, (by repeat (first | with_reducible exact F5.out | (with_reducible refine Fr.put ?_ (by first | omega | (simp; done) | (simp <;> omega)) _) | (with_reducible refine Fr.alloc ?_ _)))⟩, ⟨by dsimp only; omega, (by repeat (first | with_reducible exact F6.out | (with_reducible refine Fr.put ?_ (by first | omega | (simp; done) | (simp <;> omega)) _) | (with_reducible refine Fr.alloc ?_ _)))⟩, by simp, by omega, Nat.le_refl _, by omega, Nat.le_refl _, by omega, Nat.le_refl _, by omega, Nat.le_refl _, by omega, Nat.le_refl _, by omega, by simp⟩, by repeat (first | with_reducible exact Below.refl _ _ | (with_reducible exact HB.out) | (with_reducible refine Below.setCell ?_ (by first | omega | (simp; done) | (simp <;> omega)) _) | (with_reducible refine Below.alloc ?_ (by first | omega | (simp; done) | (simp <;> omega)) _) | (refine Below.alloc ?_ (by first | omega | (simp; done) | (simp <;> omega)) _) | (refine Below.setCell ?_ (by first | omega | (simp; done) | (simp <;> omega)) _))⟩

theorem sz_browser (x : DBrowser) (lo hi : Nat) (left : Int) (w : World) (hr : x.rd w lo hi) (h : (((x.dat.sz : Nat) : Int) ≤ left)) (hl : left ≤ 1048576) :
    Calls Tryz.prog 10 #[.agg #[.int .i64 x.p0, .slice x.A1 x.n1 x.c1, .slice x.A2 x.n2 x.c2, .slice x.A3 x.n3 x.c3, .slice x.A4 x.n4 x.c4, .slice x.A5 x.n5 x.c5, .slice x.A6 x.n6 x.c6, .int .i64 x.p7], .int .i64 left] w (Says (.int .i64 (left - ((x.dat.sz : Nat) : Int))) w) := by
  rw [hr.sz] at h ⊢
  obtain ⟨h1, h2, h3, h4, h5, h6⟩ := hr
  have R1 := Lib.hid h1
  clear h1
  have R2 := Lib.hid h2
  clear h2
  have m3 := h3.1
  clear h3
  have m4 := h4.1
  clear h4
  have m5 := h5.1
  clear h5
  have m6 := h6.1
  clear h6
  have p1 : 0 ≤ ((x.n1 + MTab.szs (x.l1.map DTab.dat) : Nat) : Int) := by omega
  have p2 : 0 ≤ ((x.n2 + MPackage.szs (x.l2.map DPackage.dat) : Nat) : Int) := by omega
  have p3 : 0 ≤ (x.n3 : Int) := by omega
  have p4 : 0 ≤ (x.n4 : Int) := by omega
  have p5 : 0 ≤ (x.n5 : Int) := by omega
  have p6 : 0 ≤ (x.n6 : Int) := by omega
  have HT : (((x.n1 + MTab.szs (x.l1.map DTab.dat)) + (x.n2 + MPackage.szs (x.l2.map DPackage.dat)) + x.n3 + x.n4 + x.n5 + x.n6 : Nat) : Int) = ((x.n1 + MTab.szs (x.l1.map DTab.dat) : Nat) : Int) + ((x.n2 + MPackage.szs (x.l2.map DPackage.dat) : Nat) : Int) + (x.n3 : Int) + (x.n4 : Int) + (x.n5 : Int) + (x.n6 : Int) := by push_cast; omega
  rw [HT] at h ⊢
  clear HT
  have HB := Lib.hid (Below.refl w.heap.size w)
  have g0 : decide (left - ((x.n1 + MTab.szs (x.l1.map DTab.dat) : Nat) : Int) < 0) = false := by simp; omega
  have g1 : decide (left - ((x.n1 + MTab.szs (x.l1.map DTab.dat) : Nat) : Int) - ((x.n2 + MPackage.szs (x.l2.map DPackage.dat) : Nat) : Int) < 0) = false := by simp; omega
  have g2 : decide (left - ((x.n1 + MTab.szs (x.l1.map DTab.dat) : Nat) : Int) - ((x.n2 + MPackage.szs (x.l2.map DPackage.dat) : Nat) : Int) - (x.n3 : Int) < 0) = false := by simp; omega
  have g3 : decide (left - ((x.n1 + MTab.szs (x.l1.map DTab.dat) : Nat) : Int) - ((x.n2 + MPackage.szs (x.l2.map DPackage.dat) : Nat) : Int) - (x.n3 : Int) - (x.n4 : Int) < 0) = false := by simp; omega
  have g4 : decide (left - ((x.n1 + MTab.szs (x.l1.map DTab.dat) : Nat) : Int) - ((x.n2 + MPackage.szs (x.l2.map DPackage.dat) : Nat) : Int) - (x.n3 : Int) - (x.n4 : Int) - (x.n5 : Int) < 0) = false := by simp; omega
  have g5 : decide (left - ((x.n1 + MTab.szs (x.l1.map DTab.dat) : Nat) : Int) - ((x.n2 + MPackage.szs (x.l2.map DPackage.dat) : Nat) : Int) - (x.n3 : Int) - (x.n4 : Int) - (x.n5 : Int) - (x.n6 : Int) < 0) = false := by simp; omega
  go_enter Tryz.func10, Tryz.ntmps10
  go_wp2_with fail
  refine Calls.mono (sz_tabs x.l1 x.A1 x.n1 x.c1 lo hi (left) _ (R1.out.new (by repeat (first | with_reducible exact Below.refl _ _ | (with_reducible exact HB.out) | (with_reducible refine Below.setCell ?_ (by first | omega | (simp; done) | (simp <;> omega)) _) | (with_reducible refine Below.alloc ?_ (by first | omega | (simp; done) | (simp <;> omega)) _) | (refine Below.alloc ?_ (by first | omega | (simp; done) | (simp <;> omega)) _) | (refine Below.setCell ?_ (by first | omega | (simp; done) | (simp <;> omega)) _)))) (by omega) (by omega)) ?_
  rintro e w1 hq
  obtain ⟨rfl, hb⟩ := hq
  obtain ⟨hc1, hf1⟩ := bcell hb
  have hs1 := hb.size
  (try simp at hs1)
  replace HB := Lib.hid (show Below w.heap.size w w1 from Below.trans (by repeat (first | with_reducible exact Below.refl _ _ | (with_reducible exact HB.out) | (with_reducible refine Below.setCell ?_ (by first | omega | (simp; done) | (simp <;> omega)) _) | (with_reducible refine Below.alloc ?_ (by first | omega | (simp; done) | (simp <;> omega)) _) | (refine Below.alloc ?_ (by first | omega | (simp; done) | (simp <;> omega)) _) | (refine Below.setCell ?_ (by first | omega | (simp; done) | (simp <;> omega)) _))) (hb.mono (by first | omega | (simp; done) | (simp <;> omega))))
  have z1_0 : w.heap.size < w1.heap.size := by omega
  clear hb
  go_wp2_with fail
  refine Calls.mono (sz_packages x.l2 x.A2 x.n2 x.c2 lo hi (left - ((x.n1 + MTab.szs (x.l1.map DTab.dat) : Nat) : Int)) _ (R2.out.new (by repeat (first | with_reducible exact Below.refl _ _ | (with_reducible exact HB.out) | (with_reducible refine Below.setCell ?_ (by first | omega | (simp; done) | (simp <;> omega)) _) | (with_reducible refine Below.alloc ?_ (by first | omega | (simp; done) | (simp <;> omega)) _) | (refine Below.alloc ?_ (by first | omega | (simp; done) | (simp <;> omega)) _) | (refine Below.setCell ?_ (by first | omega | (simp; done) | (simp <;> omega)) _)))) (by omega) (by omega)) ?_
  rintro e w2 hq
  obtain ⟨rfl, hb⟩ := hq
  obtain ⟨hc2, hf2⟩ := bcell hb
  have hs2 := hb.size
  (try simp at hs2)
  replace HB := Lib.hid (show Below w.heap.size w w2 from Below.trans (by repeat (first | with_reducible exact Below.refl _ _ | (with_reducible exact HB.out) | (with_reducible refine Below.setCell ?_ (by first | omega | (simp; done) | (simp <;> omega)) _) | (with_reducible refine Below.alloc ?_ (by first | omega | (simp; done) | (simp <;> omega)) _) | (refine Below.alloc ?_ (by first | omega | (simp; done) | (simp <;> omega)) _) | (refine Below.setCell ?_ (by first | omega | (simp; done) | (simp <;> omega)) _))) (hb.mono (by first | omega | (simp; done) | (simp <;> omega))))
  have z2_0 : w.heap.size < w2.heap.size := by omega
  clear hb
  go_wp2_with fail
  refine Calls.mono (sz_grant x.A3 x.n3 x.c3 (left - ((x.n1 + MTab.szs (x.l1.map DTab.dat) : Nat) : Int) - ((x.n2 + MPackage.szs (x.l2.map DPackage.dat) : Nat) : Int)) _ m3 (by omega) (by omega)) ?_
  rintro e w3 hq
  obtain ⟨rfl, hb⟩ := hq.says
  obtain ⟨hc3, hf3⟩ := bcell hb
  have hs3 := hb.size
  (try simp at hs3)
  replace HB := Lib.hid (show Below w.heap.size w w3 from Below.trans (by repeat (first | with_reducible exact Below.refl _ _ | (with_reducible exact HB.out) | (with_reducible refine Below.setCell ?_ (by first | omega | (simp; done) | (simp <;> omega)) _) | (with_reducible refine Below.alloc ?_ (by first | omega | (simp; done) | (simp <;> omega)) _) | (refine Below.alloc ?_ (by first | omega | (simp; done) | (simp <;> omega)) _) | (refine Below.setCell ?_ (by first | omega | (simp; done) | (simp <;> omega)) _))) (hb.mono (by first | omega | (simp; done) | (simp <;> omega))))
  have z3_0 : w.heap.size < w3.heap.size := by omega
  clear hb
  go_wp2_with fail
  refine Calls.mono (sz_limit x.A4 x.n4 x.c4 (left - ((x.n1 + MTab.szs (x.l1.map DTab.dat) : Nat) : Int) - ((x.n2 + MPackage.szs (x.l2.map DPackage.dat) : Nat) : Int) - (x.n3 : Int)) _ m4 (by omega) (by omega)) ?_
  rintro e w4 hq
  obtain ⟨rfl, hb⟩ := hq.says
  obtain ⟨hc4, hf4⟩ := bcell hb
  have hs4 := hb.size
  (try simp at hs4)
  replace HB := Lib.hid (show Below w.heap.size w w4 from Below.trans (by repeat (first | with_reducible exact Below.refl _ _ | (with_reducible exact HB.out) | (with_reducible refine Below.setCell ?_ (by first | omega | (simp; done) | (simp <;> omega)) _) | (with_reducible refine Below.alloc ?_ (by first | omega | (simp; done) | (simp <;> omega)) _) | (refine Below.alloc ?_ (by first | omega | (simp; done) | (simp <;> omega)) _) | (refine Below.setCell ?_ (by first | omega | (simp; done) | (simp <;> omega)) _))) (hb.mono (by first | omega | (simp; done) | (simp <;> omega))))
  have z4_0 : w.heap.size < w4.heap.size := by omega
  clear hb
  go_wp2_with fail
  refine Calls.mono (sz_rule x.A5 x.n5 x.c5 (left - ((x.n1 + MTab.szs (x.l1.map DTab.dat) : Nat) : Int) - ((x.n2 + MPackage.szs (x.l2.map DPackage.dat) : Nat) : Int) - (x.n3 : Int) - (x.n4 : Int)) _ m5 (by omega) (by omega)) ?_
  rintro e w5 hq
  obtain ⟨rfl, hb⟩ := hq.says
  obtain ⟨hc5, hf5⟩ := bcell hb
  have hs5 := hb.size
  (try simp at hs5)
  replace HB := Lib.hid (show Below w.heap.size w w5 from Below.trans (by repeat (first | with_reducible exact Below.refl _ _ | (with_reducible exact HB.out) | (with_reducible refine Below.setCell ?_ (by first | omega | (simp; done) | (simp <;> omega)) _) | (with_reducible refine Below.alloc ?_ (by first | omega | (simp; done) | (simp <;> omega)) _) | (refine Below.alloc ?_ (by first | omega | (simp; done) | (simp <;> omega)) _) | (refine Below.setCell ?_ (by first | omega | (simp; done) | (simp <;> omega)) _))) (hb.mono (by first | omega | (simp; done) | (simp <;> omega))))
  have z5_0 : w.heap.size < w5.heap.size := by omega
  clear hb
  go_wp2_with fail
  refine Calls.mono (sz_stored x.A6 x.n6 x.c6 (left - ((x.n1 + MTab.szs (x.l1.map DTab.dat) : Nat) : Int) - ((x.n2 + MPackage.szs (x.l2.map DPackage.dat) : Nat) : Int) - (x.n3 : Int) - (x.n4 : Int) - (x.n5 : Int)) _ m6 (by omega) (by omega)) ?_
  rintro e w6 hq
  obtain ⟨rfl, hb⟩ := hq.says
  obtain ⟨hc6, hf6⟩ := bcell hb
  have hs6 := hb.size
  (try simp at hs6)
  replace HB := Lib.hid (show Below w.heap.size w w6 from Below.trans (by repeat (first | with_reducible exact Below.refl _ _ | (with_reducible exact HB.out) | (with_reducible refine Below.setCell ?_ (by first | omega | (simp; done) | (simp <;> omega)) _) | (with_reducible refine Below.alloc ?_ (by first | omega | (simp; done) | (simp <;> omega)) _) | (refine Below.alloc ?_ (by first | omega | (simp; done) | (simp <;> omega)) _) | (refine Below.setCell ?_ (by first | omega | (simp; done) | (simp <;> omega)) _))) (hb.mono (by first | omega | (simp; done) | (simp <;> omega))))
  have z6_0 : w.heap.size < w6.heap.size := by omega
  clear hb
  go_wp2_with fail
  go_ret
  exact ⟨congrArg (fun z : Int => Ending.returned (Value.int .i64 z)) (by omega), by repeat (first | with_reducible exact Below.refl _ _ | (with_reducible exact HB.out) | (with_reducible refine Below.setCell ?_ (by first | omega | (simp; done) | (simp <;> omega)) _) | (with_reducible refine Below.alloc ?_ (by first | omega | (simp; done) | (simp <;> omega)) _) | (refine Below.alloc ?_ (by first | omega | (simp; done) | (simp <;> omega)) _) | (refine Below.setCell ?_ (by first | omega | (simp; done) | (simp <;> omega)) _))⟩

theorem szno_browser (x : DBrowser) (lo hi : Nat) (left : Int) (w : World) (hr : x.rd w lo hi) (h : ¬ (((x.dat.sz : Nat) : Int) ≤ left)) (hl : left ≤ 1048576) (hl0 : 0 ≤ left) :
    Calls Tryz.prog 10 #[.agg #[.int .i64 x.p0, .slice x.A1 x.n1 x.c1, .slice x.A2 x.n2 x.c2, .slice x.A3 x.n3 x.c3, .slice x.A4 x.n4 x.c4, .slice x.A5 x.n5 x.c5, .slice x.A6 x.n6 x.c6, .int .i64 x.p7], .int .i64 left] w (Says (.int .i64 (-1)) w) := by
  rw [hr.sz] at h
  obtain ⟨h1, h2, h3, h4, h5, h6⟩ := hr
  have R1 := Lib.hid h1
  clear h1
  have R2 := Lib.hid h2
  clear h2
  have m3 := h3.1
  clear h3
  have m4 := h4.1
  clear h4
  have m5 := h5.1
  clear h5
  have m6 := h6.1
  clear h6
  have p1 : 0 ≤ ((x.n1 + MTab.szs (x.l1.map DTab.dat) : Nat) : Int) := by omega
  have p2 : 0 ≤ ((x.n2 + MPackage.szs (x.l2.map DPackage.dat) : Nat) : Int) := by omega
  have p3 : 0 ≤ (x.n3 : Int) := by omega
  have p4 : 0 ≤ (x.n4 : Int) := by omega
  have p5 : 0 ≤ (x.n5 : Int) := by omega
  have p6 : 0 ≤ (x.n6 : Int) := by omega
  have HT : (((x.n1 + MTab.szs (x.l1.map DTab.dat)) + (x.n2 + MPackage.szs (x.l2.map DPackage.dat)) + x.n3 + x.n4 + x.n5 + x.n6 : Nat) : Int) = ((x.n1 + MTab.szs (x.l1.map DTab.dat) : Nat) : Int) + ((x.n2 + MPackage.szs (x.l2.map DPackage.dat) : Nat) : Int) + (x.n3 : Int) + (x.n4 : Int) + (x.n5 : Int) + (x.n6 : Int) := by push_cast; omega
  rw [HT] at h
  clear HT
  have HB := Lib.hid (Below.refl w.heap.size w)
  by_cases u0 : left < ((x.n1 + MTab.szs (x.l1.map DTab.dat) : Nat) : Int)
  · skip
    go_enter Tryz.func10, Tryz.ntmps10
    go_wp2_with fail
    refine Calls.mono (szno_tabs x.l1 x.A1 x.n1 x.c1 lo hi (left) _ (R1.out.new (by repeat (first | with_reducible exact Below.refl _ _ | (with_reducible exact HB.out) | (with_reducible refine Below.setCell ?_ (by first | omega | (simp; done) | (simp <;> omega)) _) | (with_reducible refine Below.alloc ?_ (by first | omega | (simp; done) | (simp <;> omega)) _) | (refine Below.alloc ?_ (by first | omega | (simp; done) | (simp <;> omega)) _) | (refine Below.setCell ?_ (by first | omega | (simp; done) | (simp <;> omega)) _)))) (by omega) (by omega) (by omega)) ?_
    rintro e w1 hq
    obtain ⟨rfl, hb⟩ := hq
    obtain ⟨hc1, hf1⟩ := bcell hb
    have hs1 := hb.size
    (try simp at hs1)
    replace HB := Lib.hid (show Below w.heap.size w w1 from Below.trans (by repeat (first | with_reducible exact Below.refl _ _ | (with_reducible exact HB.out) | (with_reducible refine Below.setCell ?_ (by first | omega | (simp; done) | (simp <;> omega)) _) | (with_reducible refine Below.alloc ?_ (by first | omega | (simp; done) | (simp <;> omega)) _) | (refine Below.alloc ?_ (by first | omega | (simp; done) | (simp <;> omega)) _) | (refine Below.setCell ?_ (by first | omega | (simp; done) | (simp <;> omega)) _))) (hb.mono (by first | omega | (simp; done) | (simp <;> omega))))
    have z1_0 : w.heap.size < w1.heap.size := by omega
    clear hb
    go_wp2_with fail
    go_ret
    exact ⟨rfl, by repeat (first | with_reducible exact Below.refl _ _ | (with_reducible exact HB.out) | (with_reducible refine Below.setCell ?_ (by first | omega | (simp; done) | (simp <;> omega)) _) | (with_reducible refine Below.alloc ?_ (by first | omega | (simp; done) | (simp <;> omega)) _) | (refine Below.alloc ?_ (by first | omega | (simp; done) | (simp <;> omega)) _) | (refine Below.setCell ?_ (by first | omega | (simp; done) | (simp <;> omega)) _))⟩
  by_cases u1 : left < ((x.n1 + MTab.szs (x.l1.map DTab.dat) : Nat) : Int) + ((x.n2 + MPackage.szs (x.l2.map DPackage.dat) : Nat) : Int)
  · skip
    have g0 : decide (left - ((x.n1 + MTab.szs (x.l1.map DTab.dat) : Nat) : Int) < 0) = false := by simp; omega
    go_enter Tryz.func10, Tryz.ntmps10
    go_wp2_with fail
    refine Calls.mono (sz_tabs x.l1 x.A1 x.n1 x.c1 lo hi (left) _ (R1.out.new (by repeat (first | with_reducible exact Below.refl _ _ | (with_reducible exact HB.out) | (with_reducible refine Below.setCell ?_ (by first | omega | (simp; done) | (simp <;> omega)) _) | (with_reducible refine Below.alloc ?_ (by first | omega | (simp; done) | (simp <;> omega)) _) | (refine Below.alloc ?_ (by first | omega | (simp; done) | (simp <;> omega)) _) | (refine Below.setCell ?_ (by first | omega | (simp; done) | (simp <;> omega)) _)))) (by omega) (by omega)) ?_
    rintro e w1 hq
    obtain ⟨rfl, hb⟩ := hq
    obtain ⟨hc1, hf1⟩ := bcell hb
    have hs1 := hb.size
    (try simp at hs1)
    replace HB := Lib.hid (show Below w.heap.size w w1 from Below.trans (by repeat (first | with_reducible exact Below.refl _ _ | (with_reducible exact HB.out) | (with_reducible refine Below.setCell ?_ (by first | omega | (simp; done) | (simp <;> omega)) _) | (with_reducible refine Below.alloc ?_ (by first | omega | (simp; done) | (simp <;> omega)) _) | (refine Below.alloc ?_ (by first | omega | (simp; done) | (simp <;> omega)) _) | (refine Below.setCell ?_ (by first | omega | (simp; done) | (simp <;> omega)) _))) (hb.mono (by first | omega | (simp; done) | (simp <;> omega))))
    have z1_0 : w.heap.size < w1.heap.size := by omega
    clear hb
    go_wp2_with fail
    refine Calls.mono (szno_packages x.l2 x.A2 x.n2 x.c2 lo hi (left - ((x.n1 + MTab.szs (x.l1.map DTab.dat) : Nat) : Int)) _ (R2.out.new (by repeat (first | with_reducible exact Below.refl _ _ | (with_reducible exact HB.out) | (with_reducible refine Below.setCell ?_ (by first | omega | (simp; done) | (simp <;> omega)) _) | (with_reducible refine Below.alloc ?_ (by first | omega | (simp; done) | (simp <;> omega)) _) | (refine Below.alloc ?_ (by first | omega | (simp; done) | (simp <;> omega)) _) | (refine Below.setCell ?_ (by first | omega | (simp; done) | (simp <;> omega)) _)))) (by omega) (by omega) (by omega)) ?_
    rintro e w2 hq
    obtain ⟨rfl, hb⟩ := hq
    obtain ⟨hc2, hf2⟩ := bcell hb
    have hs2 := hb.size
    (try simp at hs2)
    replace HB := Lib.hid (show Below w.heap.size w w2 from Below.trans (by repeat (first | with_reducible exact Below.refl _ _ | (with_reducible exact HB.out) | (with_reducible refine Below.setCell ?_ (by first | omega | (simp; done) | (simp <;> omega)) _) | (with_reducible refine Below.alloc ?_ (by first | omega | (simp; done) | (simp <;> omega)) _) | (refine Below.alloc ?_ (by first | omega | (simp; done) | (simp <;> omega)) _) | (refine Below.setCell ?_ (by first | omega | (simp; done) | (simp <;> omega)) _))) (hb.mono (by first | omega | (simp; done) | (simp <;> omega))))
    have z2_0 : w.heap.size < w2.heap.size := by omega
    clear hb
    go_wp2_with fail
    go_ret
    exact ⟨rfl, by repeat (first | with_reducible exact Below.refl _ _ | (with_reducible exact HB.out) | (with_reducible refine Below.setCell ?_ (by first | omega | (simp; done) | (simp <;> omega)) _) | (with_reducible refine Below.alloc ?_ (by first | omega | (simp; done) | (simp <;> omega)) _) | (refine Below.alloc ?_ (by first | omega | (simp; done) | (simp <;> omega)) _) | (refine Below.setCell ?_ (by first | omega | (simp; done) | (simp <;> omega)) _))⟩
  by_cases u2 : left < ((x.n1 + MTab.szs (x.l1.map DTab.dat) : Nat) : Int) + ((x.n2 + MPackage.szs (x.l2.map DPackage.dat) : Nat) : Int) + (x.n3 : Int)
  · skip
    have g0 : decide (left - ((x.n1 + MTab.szs (x.l1.map DTab.dat) : Nat) : Int) < 0) = false := by simp; omega
    have g1 : decide (left - ((x.n1 + MTab.szs (x.l1.map DTab.dat) : Nat) : Int) - ((x.n2 + MPackage.szs (x.l2.map DPackage.dat) : Nat) : Int) < 0) = false := by simp; omega
    go_enter Tryz.func10, Tryz.ntmps10
    go_wp2_with fail
    refine Calls.mono (sz_tabs x.l1 x.A1 x.n1 x.c1 lo hi (left) _ (R1.out.new (by repeat (first | with_reducible exact Below.refl _ _ | (with_reducible exact HB.out) | (with_reducible refine Below.setCell ?_ (by first | omega | (simp; done) | (simp <;> omega)) _) | (with_reducible refine Below.alloc ?_ (by first | omega | (simp; done) | (simp <;> omega)) _) | (refine Below.alloc ?_ (by first | omega | (simp; done) | (simp <;> omega)) _) | (refine Below.setCell ?_ (by first | omega | (simp; done) | (simp <;> omega)) _)))) (by omega) (by omega)) ?_
    rintro e w1 hq
    obtain ⟨rfl, hb⟩ := hq
    obtain ⟨hc1, hf1⟩ := bcell hb
    have hs1 := hb.size
    (try simp at hs1)
    replace HB := Lib.hid (show Below w.heap.size w w1 from Below.trans (by repeat (first | with_reducible exact Below.refl _ _ | (with_reducible exact HB.out) | (with_reducible refine Below.setCell ?_ (by first | omega | (simp; done) | (simp <;> omega)) _) | (with_reducible refine Below.alloc ?_ (by first | omega | (simp; done) | (simp <;> omega)) _) | (refine Below.alloc ?_ (by first | omega | (simp; done) | (simp <;> omega)) _) | (refine Below.setCell ?_ (by first | omega | (simp; done) | (simp <;> omega)) _))) (hb.mono (by first | omega | (simp; done) | (simp <;> omega))))
    have z1_0 : w.heap.size < w1.heap.size := by omega
    clear hb
    go_wp2_with fail
    refine Calls.mono (sz_packages x.l2 x.A2 x.n2 x.c2 lo hi (left - ((x.n1 + MTab.szs (x.l1.map DTab.dat) : Nat) : Int)) _ (R2.out.new (by repeat (first | with_reducible exact Below.refl _ _ | (with_reducible exact HB.out) | (with_reducible refine Below.setCell ?_ (by first | omega | (simp; done) | (simp <;> omega)) _) | (with_reducible refine Below.alloc ?_ (by first | omega | (simp; done) | (simp <;> omega)) _) | (refine Below.alloc ?_ (by first | omega | (simp; done) | (simp <;> omega)) _) | (refine Below.setCell ?_ (by first | omega | (simp; done) | (simp <;> omega)) _)))) (by omega) (by omega)) ?_
    rintro e w2 hq
    obtain ⟨rfl, hb⟩ := hq
    obtain ⟨hc2, hf2⟩ := bcell hb
    have hs2 := hb.size
    (try simp at hs2)
    replace HB := Lib.hid (show Below w.heap.size w w2 from Below.trans (by repeat (first | with_reducible exact Below.refl _ _ | (with_reducible exact HB.out) | (with_reducible refine Below.setCell ?_ (by first | omega | (simp; done) | (simp <;> omega)) _) | (with_reducible refine Below.alloc ?_ (by first | omega | (simp; done) | (simp <;> omega)) _) | (refine Below.alloc ?_ (by first | omega | (simp; done) | (simp <;> omega)) _) | (refine Below.setCell ?_ (by first | omega | (simp; done) | (simp <;> omega)) _))) (hb.mono (by first | omega | (simp; done) | (simp <;> omega))))
    have z2_0 : w.heap.size < w2.heap.size := by omega
    clear hb
    go_wp2_with fail
    refine Calls.mono (szno_grant x.A3 x.n3 x.c3 (left - ((x.n1 + MTab.szs (x.l1.map DTab.dat) : Nat) : Int) - ((x.n2 + MPackage.szs (x.l2.map DPackage.dat) : Nat) : Int)) _ m3 (by omega) (by omega) (by omega)) ?_
    rintro e w3 hq
    obtain ⟨rfl, hb⟩ := hq.says
    obtain ⟨hc3, hf3⟩ := bcell hb
    have hs3 := hb.size
    (try simp at hs3)
    replace HB := Lib.hid (show Below w.heap.size w w3 from Below.trans (by repeat (first | with_reducible exact Below.refl _ _ | (with_reducible exact HB.out) | (with_reducible refine Below.setCell ?_ (by first | omega | (simp; done) | (simp <;> omega)) _) | (with_reducible refine Below.alloc ?_ (by first | omega | (simp; done) | (simp <;> omega)) _) | (refine Below.alloc ?_ (by first | omega | (simp; done) | (simp <;> omega)) _) | (refine Below.setCell ?_ (by first | omega | (simp; done) | (simp <;> omega)) _))) (hb.mono (by first | omega | (simp; done) | (simp <;> omega))))
    have z3_0 : w.heap.size < w3.heap.size := by omega
    clear hb
    go_wp2_with fail
    go_ret
    exact ⟨rfl, by repeat (first | with_reducible exact Below.refl _ _ | (with_reducible exact HB.out) | (with_reducible refine Below.setCell ?_ (by first | omega | (simp; done) | (simp <;> omega)) _) | (with_reducible refine Below.alloc ?_ (by first | omega | (simp; done) | (simp <;> omega)) _) | (refine Below.alloc ?_ (by first | omega | (simp; done) | (simp <;> omega)) _) | (refine Below.setCell ?_ (by first | omega | (simp; done) | (simp <;> omega)) _))⟩
  by_cases u3 : left < ((x.n1 + MTab.szs (x.l1.map DTab.dat) : Nat) : Int) + ((x.n2 + MPackage.szs (x.l2.map DPackage.dat) : Nat) : Int) + (x.n3 : Int) + (x.n4 : Int)
  · skip
    have g0 : decide (left - ((x.n1 + MTab.szs (x.l1.map DTab.dat) : Nat) : Int) < 0) = false := by simp; omega
    have g1 : decide (left - ((x.n1 + MTab.szs (x.l1.map DTab.dat) : Nat) : Int) - ((x.n2 + MPackage.szs (x.l2.map DPackage.dat) : Nat) : Int) < 0) = false := by simp; omega
    have g2 : decide (left - ((x.n1 + MTab.szs (x.l1.map DTab.dat) : Nat) : Int) - ((x.n2 + MPackage.szs (x.l2.map DPackage.dat) : Nat) : Int) - (x.n3 : Int) < 0) = false := by simp; omega
    go_enter Tryz.func10, Tryz.ntmps10
    go_wp2_with fail
    refine Calls.mono (sz_tabs x.l1 x.A1 x.n1 x.c1 lo hi (left) _ (R1.out.new (by repeat (first | with_reducible exact Below.refl _ _ | (with_reducible exact HB.out) | (with_reducible refine Below.setCell ?_ (by first | omega | (simp; done) | (simp <;> omega)) _) | (with_reducible refine Below.alloc ?_ (by first | omega | (simp; done) | (simp <;> omega)) _) | (refine Below.alloc ?_ (by first | omega | (simp; done) | (simp <;> omega)) _) | (refine Below.setCell ?_ (by first | omega | (simp; done) | (simp <;> omega)) _)))) (by omega) (by omega)) ?_
    rintro e w1 hq
    obtain ⟨rfl, hb⟩ := hq
    obtain ⟨hc1, hf1⟩ := bcell hb
    have hs1 := hb.size
    (try simp at hs1)
    replace HB := Lib.hid (show Below w.heap.size w w1 from Below.trans (by repeat (first | with_reducible exact Below.refl _ _ | (with_reducible exact HB.out) | (with_reducible refine Below.setCell ?_ (by first | omega | (simp; done) | (simp <;> omega)) _) | (with_reducible refine Below.alloc ?_ (by first | omega | (simp; done) | (simp <;> omega)) _) | (refine Below.alloc ?_ (by first | omega | (simp; done) | (simp <;> omega)) _) | (refine Below.setCell ?_ (by first | omega | (simp; done) | (simp <;> omega)) _))) (hb.mono (by first | omega | (simp; done) | (simp <;> omega))))
    have z1_0 : w.heap.size < w1.heap.size := by omega
    clear hb
    go_wp2_with fail
    refine Calls.mono (sz_packages x.l2 x.A2 x.n2 x.c2 lo hi (left - ((x.n1 + MTab.szs (x.l1.map DTab.dat) : Nat) : Int)) _ (R2.out.new (by repeat (first | with_reducible exact Below.refl _ _ | (with_reducible exact HB.out) | (with_reducible refine Below.setCell ?_ (by first | omega | (simp; done) | (simp <;> omega)) _) | (with_reducible refine Below.alloc ?_ (by first | omega | (simp; done) | (simp <;> omega)) _) | (refine Below.alloc ?_ (by first | omega | (simp; done) | (simp <;> omega)) _) | (refine Below.setCell ?_ (by first | omega | (simp; done) | (simp <;> omega)) _)))) (by omega) (by omega)) ?_
    rintro e w2 hq
    obtain ⟨rfl, hb⟩ := hq
    obtain ⟨hc2, hf2⟩ := bcell hb
    have hs2 := hb.size
    (try simp at hs2)
    replace HB := Lib.hid (show Below w.heap.size w w2 from Below.trans (by repeat (first | with_reducible exact Below.refl _ _ | (with_reducible exact HB.out) | (with_reducible refine Below.setCell ?_ (by first | omega | (simp; done) | (simp <;> omega)) _) | (with_reducible refine Below.alloc ?_ (by first | omega | (simp; done) | (simp <;> omega)) _) | (refine Below.alloc ?_ (by first | omega | (simp; done) | (simp <;> omega)) _) | (refine Below.setCell ?_ (by first | omega | (simp; done) | (simp <;> omega)) _))) (hb.mono (by first | omega | (simp; done) | (simp <;> omega))))
    have z2_0 : w.heap.size < w2.heap.size := by omega
    clear hb
    go_wp2_with fail
    refine Calls.mono (sz_grant x.A3 x.n3 x.c3 (left - ((x.n1 + MTab.szs (x.l1.map DTab.dat) : Nat) : Int) - ((x.n2 + MPackage.szs (x.l2.map DPackage.dat) : Nat) : Int)) _ m3 (by omega) (by omega)) ?_
    rintro e w3 hq
    obtain ⟨rfl, hb⟩ := hq.says
    obtain ⟨hc3, hf3⟩ := bcell hb
    have hs3 := hb.size
    (try simp at hs3)
    replace HB := Lib.hid (show Below w.heap.size w w3 from Below.trans (by repeat (first | with_reducible exact Below.refl _ _ | (with_reducible exact HB.out) | (with_reducible refine Below.setCell ?_ (by first | omega | (simp; done) | (simp <;> omega)) _) | (with_reducible refine Below.alloc ?_ (by first | omega | (simp; done) | (simp <;> omega)) _) | (refine Below.alloc ?_ (by first | omega | (simp; done) | (simp <;> omega)) _) | (refine Below.setCell ?_ (by first | omega | (simp; done) | (simp <;> omega)) _))) (hb.mono (by first | omega | (simp; done) | (simp <;> omega))))
    have z3_0 : w.heap.size < w3.heap.size := by omega
    clear hb
    go_wp2_with fail
    refine Calls.mono (szno_limit x.A4 x.n4 x.c4 (left - ((x.n1 + MTab.szs (x.l1.map DTab.dat) : Nat) : Int) - ((x.n2 + MPackage.szs (x.l2.map DPackage.dat) : Nat) : Int) - (x.n3 : Int)) _ m4 (by omega) (by omega) (by omega)) ?_
    rintro e w4 hq
    obtain ⟨rfl, hb⟩ := hq.says
    obtain ⟨hc4, hf4⟩ := bcell hb
    have hs4 := hb.size
    (try simp at hs4)
    replace HB := Lib.hid (show Below w.heap.size w w4 from Below.trans (by repeat (first | with_reducible exact Below.refl _ _ | (with_reducible exact HB.out) | (with_reducible refine Below.setCell ?_ (by first | omega | (simp; done) | (simp <;> omega)) _) | (with_reducible refine Below.alloc ?_ (by first | omega | (simp; done) | (simp <;> omega)) _) | (refine Below.alloc ?_ (by first | omega | (simp; done) | (simp <;> omega)) _) | (refine Below.setCell ?_ (by first | omega | (simp; done) | (simp <;> omega)) _))) (hb.mono (by first | omega | (simp; done) | (simp <;> omega))))
    have z4_0 : w.heap.size < w4.heap.size := by omega
    clear hb
    go_wp2_with fail
    go_ret
    exact ⟨rfl, by repeat (first | with_reducible exact Below.refl _ _ | (with_reducible exact HB.out) | (with_reducible refine Below.setCell ?_ (by first | omega | (simp; done) | (simp <;> omega)) _) | (with_reducible refine Below.alloc ?_ (by first | omega | (simp; done) | (simp <;> omega)) _) | (refine Below.alloc ?_ (by first | omega | (simp; done) | (simp <;> omega)) _) | (refine Below.setCell ?_ (by first | omega | (simp; done) | (simp <;> omega)) _))⟩
  by_cases u4 : left < ((x.n1 + MTab.szs (x.l1.map DTab.dat) : Nat) : Int) + ((x.n2 + MPackage.szs (x.l2.map DPackage.dat) : Nat) : Int) + (x.n3 : Int) + (x.n4 : Int) + (x.n5 : Int)
  · skip
    have g0 : decide (left - ((x.n1 + MTab.szs (x.l1.map DTab.dat) : Nat) : Int) < 0) = false := by simp; omega
    have g1 : decide (left - ((x.n1 + MTab.szs (x.l1.map DTab.dat) : Nat) : Int) - ((x.n2 + MPackage.szs (x.l2.map DPackage.dat) : Nat) : Int) < 0) = false := by simp; omega
    have g2 : decide (left - ((x.n1 + MTab.szs (x.l1.map DTab.dat) : Nat) : Int) - ((x.n2 + MPackage.szs (x.l2.map DPackage.dat) : Nat) : Int) - (x.n3 : Int) < 0) = false := by simp; omega
    have g3 : decide (left - ((x.n1 + MTab.szs (x.l1.map DTab.dat) : Nat) : Int) - ((x.n2 + MPackage.szs (x.l2.map DPackage.dat) : Nat) : Int) - (x.n3 : Int) - (x.n4 : Int) < 0) = false := by simp; omega
    go_enter Tryz.func10, Tryz.ntmps10
    go_wp2_with fail
    refine Calls.mono (sz_tabs x.l1 x.A1 x.n1 x.c1 lo hi (left) _ (R1.out.new (by repeat (first | with_reducible exact Below.refl _ _ | (with_reducible exact HB.out) | (with_reducible refine Below.setCell ?_ (by first | omega | (simp; done) | (simp <;> omega)) _) | (with_reducible refine Below.alloc ?_ (by first | omega | (simp; done) | (simp <;> omega)) _) | (refine Below.alloc ?_ (by first | omega | (simp; done) | (simp <;> omega)) _) | (refine Below.setCell ?_ (by first | omega | (simp; done) | (simp <;> omega)) _)))) (by omega) (by omega)) ?_
    rintro e w1 hq
    obtain ⟨rfl, hb⟩ := hq
    obtain ⟨hc1, hf1⟩ := bcell hb
    have hs1 := hb.size
    (try simp at hs1)
    replace HB := Lib.hid (show Below w.heap.size w w1 from Below.trans (by repeat (first | with_reducible exact Below.refl _ _ | (with_reducible exact HB.out) | (with_reducible refine Below.setCell ?_ (by first | omega | (simp; done) | (simp <;> omega)) _) | (with_reducible refine Below.alloc ?_ (by first | omega | (simp; done) | (simp <;> omega)) _) | (refine Below.alloc ?_ (by first | omega | (simp; done) | (simp <;> omega)) _) | (refine Below.setCell ?_ (by first | omega | (simp; done) | (simp <;> omega)) _))) (hb.mono (by first | omega | (simp; done) | (simp <;> omega))))
    have z1_0 : w.heap.size < w1.heap.size := by omega
    clear hb
    go_wp2_with fail
    refine Calls.mono (sz_packages x.l2 x.A2 x.n2 x.c2 lo hi (left - ((x.n1 + MTab.szs (x.l1.map DTab.dat) : Nat) : Int)) _ (R2.out.new (by repeat (first | with_reducible exact Below.refl _ _ | (with_reducible exact HB.out) | (with_reducible refine Below.setCell ?_ (by first | omega | (simp; done) | (simp <;> omega)) _) | (with_reducible refine Below.alloc ?_ (by first | omega | (simp; done) | (simp <;> omega)) _) | (refine Below.alloc ?_ (by first | omega | (simp; done) | (simp <;> omega)) _) | (refine Below.setCell ?_ (by first | omega | (simp; done) | (simp <;> omega)) _)))) (by omega) (by omega)) ?_
    rintro e w2 hq
    obtain ⟨rfl, hb⟩ := hq
    obtain ⟨hc2, hf2⟩ := bcell hb
    have hs2 := hb.size
    (try simp at hs2)
    replace HB := Lib.hid (show Below w.heap.size w w2 from Below.trans (by repeat (first | with_reducible exact Below.refl _ _ | (with_reducible exact HB.out) | (with_reducible refine Below.setCell ?_ (by first | omega | (simp; done) | (simp <;> omega)) _) | (with_reducible refine Below.alloc ?_ (by first | omega | (simp; done) | (simp <;> omega)) _) | (refine Below.alloc ?_ (by first | omega | (simp; done) | (simp <;> omega)) _) | (refine Below.setCell ?_ (by first | omega | (simp; done) | (simp <;> omega)) _))) (hb.mono (by first | omega | (simp; done) | (simp <;> omega))))
    have z2_0 : w.heap.size < w2.heap.size := by omega
    clear hb
    go_wp2_with fail
    refine Calls.mono (sz_grant x.A3 x.n3 x.c3 (left - ((x.n1 + MTab.szs (x.l1.map DTab.dat) : Nat) : Int) - ((x.n2 + MPackage.szs (x.l2.map DPackage.dat) : Nat) : Int)) _ m3 (by omega) (by omega)) ?_
    rintro e w3 hq
    obtain ⟨rfl, hb⟩ := hq.says
    obtain ⟨hc3, hf3⟩ := bcell hb
    have hs3 := hb.size
    (try simp at hs3)
    replace HB := Lib.hid (show Below w.heap.size w w3 from Below.trans (by repeat (first | with_reducible exact Below.refl _ _ | (with_reducible exact HB.out) | (with_reducible refine Below.setCell ?_ (by first | omega | (simp; done) | (simp <;> omega)) _) | (with_reducible refine Below.alloc ?_ (by first | omega | (simp; done) | (simp <;> omega)) _) | (refine Below.alloc ?_ (by first | omega | (simp; done) | (simp <;> omega)) _) | (refine Below.setCell ?_ (by first | omega | (simp; done) | (simp <;> omega)) _))) (hb.mono (by first | omega | (simp; done) | (simp <;> omega))))
    have z3_0 : w.heap.size < w3.heap.size := by omega
    clear hb
    go_wp2_with fail
    refine Calls.mono (sz_limit x.A4 x.n4 x.c4 (left - ((x.n1 + MTab.szs (x.l1.map DTab.dat) : Nat) : Int) - ((x.n2 + MPackage.szs (x.l2.map DPackage.dat) : Nat) : Int) - (x.n3 : Int)) _ m4 (by omega) (by omega)) ?_
    rintro e w4 hq
    obtain ⟨rfl, hb⟩ := hq.says
    obtain ⟨hc4, hf4⟩ := bcell hb
    have hs4 := hb.size
    (try simp at hs4)
    replace HB := Lib.hid (show Below w.heap.size w w4 from Below.trans (by repeat (first | with_reducible exact Below.refl _ _ | (with_reducible exact HB.out) | (with_reducible refine Below.setCell ?_ (by first | omega | (simp; done) | (simp <;> omega)) _) | (with_reducible refine Below.alloc ?_ (by first | omega | (simp; done) | (simp <;> omega)) _) | (refine Below.alloc ?_ (by first | omega | (simp; done) | (simp <;> omega)) _) | (refine Below.setCell ?_ (by first | omega | (simp; done) | (simp <;> omega)) _))) (hb.mono (by first | omega | (simp; done) | (simp <;> omega))))
    have z4_0 : w.heap.size < w4.heap.size := by omega
    clear hb
    go_wp2_with fail
    refine Calls.mono (szno_rule x.A5 x.n5 x.c5 (left - ((x.n1 + MTab.szs (x.l1.map DTab.dat) : Nat) : Int) - ((x.n2 + MPackage.szs (x.l2.map DPackage.dat) : Nat) : Int) - (x.n3 : Int) - (x.n4 : Int)) _ m5 (by omega) (by omega) (by omega)) ?_
    rintro e w5 hq
    obtain ⟨rfl, hb⟩ := hq.says
    obtain ⟨hc5, hf5⟩ := bcell hb
    have hs5 := hb.size
    (try simp at hs5)
    replace HB := Lib.hid (show Below w.heap.size w w5 from Below.trans (by repeat (first | with_reducible exact Below.refl _ _ | (with_reducible exact HB.out) | (with_reducible refine Below.setCell ?_ (by first | omega | (simp; done) | (simp <;> omega)) _) | (with_reducible refine Below.alloc ?_ (by first | omega | (simp; done) | (simp <;> omega)) _) | (refine Below.alloc ?_ (by first | omega | (simp; done) | (simp <;> omega)) _) | (refine Below.setCell ?_ (by first | omega | (simp; done) | (simp <;> omega)) _))) (hb.mono (by first | omega | (simp; done) | (simp <;> omega))))
    have z5_0 : w.heap.size < w5.heap.size := by omega
    clear hb
    go_wp2_with fail
    go_ret
    exact ⟨rfl, by repeat (first | with_reducible exact Below.refl _ _ | (with_reducible exact HB.out) | (with_reducible refine Below.setCell ?_ (by first | omega | (simp; done) | (simp <;> omega)) _) | (with_reducible refine Below.alloc ?_ (by first | omega | (simp; done) | (simp <;> omega)) _) | (refine Below.alloc ?_ (by first | omega | (simp; done) | (simp <;> omega)) _) | (refine Below.setCell ?_ (by first | omega | (simp; done) | (simp <;> omega)) _))⟩
  have g0 : decide (left - ((x.n1 + MTab.szs (x.l1.map DTab.dat) : Nat) : Int) < 0) = false := by simp; omega
  have g1 : decide (left - ((x.n1 + MTab.szs (x.l1.map DTab.dat) : Nat) : Int) - ((x.n2 + MPackage.szs (x.l2.map DPackage.dat) : Nat) : Int) < 0) = false := by simp; omega
  have g2 : decide (left - ((x.n1 + MTab.szs (x.l1.map DTab.dat) : Nat) : Int) - ((x.n2 + MPackage.szs (x.l2.map DPackage.dat) : Nat) : Int) - (x.n3 : Int) < 0) = false := by simp; omega
  have g3 : decide (left - ((x.n1 + MTab.szs (x.l1.map DTab.dat) : Nat) : Int) - ((x.n2 + MPackage.szs (x.l2.map DPackage.dat) : Nat) : Int) - (x.n3 : Int) - (x.n4 : Int) < 0) = false := by simp; omega
  have g4 : decide (left - ((x.n1 + MTab.szs (x.l1.map DTab.dat) : Nat) : Int) - ((x.n2 + MPackage.szs (x.l2.map DPackage.dat) : Nat) : Int) - (x.n3 : Int) - (x.n4 : Int) - (x.n5 : Int) < 0) = false := by simp; omega
  go_enter Tryz.func10, Tryz.ntmps10
  go_wp2_with fail
  refine Calls.mono (sz_tabs x.l1 x.A1 x.n1 x.c1 lo hi (left) _ (R1.out.new (by repeat (first | with_reducible exact Below.refl _ _ | (with_reducible exact HB.out) | (with_reducible refine Below.setCell ?_ (by first | omega | (simp; done) | (simp <;> omega)) _) | (with_reducible refine Below.alloc ?_ (by first | omega | (simp; done) | (simp <;> omega)) _) | (refine Below.alloc ?_ (by first | omega | (simp; done) | (simp <;> omega)) _) | (refine Below.setCell ?_ (by first | omega | (simp; done) | (simp <;> omega)) _)))) (by omega) (by omega)) ?_
  rintro e w1 hq
  obtain ⟨rfl, hb⟩ := hq
  obtain ⟨hc1, hf1⟩ := bcell hb
  have hs1 := hb.size
  (try simp at hs1)
  replace HB := Lib.hid (show Below w.heap.size w w1 from Below.trans (by repeat (first | with_reducible exact Below.refl _ _ | (with_reducible exact HB.out) | (with_reducible refine Below.setCell ?_ (by first | omega | (simp; done) | (simp <;> omega)) _) | (with_reducible refine Below.alloc ?_ (by first | omega | (simp; done) | (simp <;> omega)) _) | (refine Below.alloc ?_ (by first | omega | (simp; done) | (simp <;> omega)) _) | (refine Below.setCell ?_ (by first | omega | (simp; done) | (simp <;> omega)) _))) (hb.mono (by first | omega | (simp; done) | (simp <;> omega))))
  have z1_0 : w.heap.size < w1.heap.size := by omega
  clear hb
  go_wp2_with fail
  refine Calls.mono (sz_packages x.l2 x.A2 x.n2 x.c2 lo hi (left - ((x.n1 + MTab.szs (x.l1.map DTab.dat) : Nat) : Int)) _ (R2.out.new (by repeat (first | with_reducible exact Below.refl _ _ | (with_reducible exact HB.out) | (with_reducible refine Below.setCell ?_ (by first | omega | (simp; done) | (simp <;> omega)) _) | (with_reducible refine Below.alloc ?_ (by first | omega | (simp; done) | (simp <;> omega)) _) | (refine Below.alloc ?_ (by first | omega | (simp; done) | (simp <;> omega)) _) | (refine Below.setCell ?_ (by first | omega | (simp; done) | (simp <;> omega)) _)))) (by omega) (by omega)) ?_
  rintro e w2 hq
  obtain ⟨rfl, hb⟩ := hq
  obtain ⟨hc2, hf2⟩ := bcell hb
  have hs2 := hb.size
  (try simp at hs2)
  replace HB := Lib.hid (show Below w.heap.size w w2 from Below.trans (by repeat (first | with_reducible exact Below.refl _ _ | (with_reducible exact HB.out) | (with_reducible refine Below.setCell ?_ (by first | omega | (simp; done) | (simp <;> omega)) _) | (with_reducible refine Below.alloc ?_ (by first | omega | (simp; done) | (simp <;> omega)) _) | (refine Below.alloc ?_ (by first | omega | (simp; done) | (simp <;> omega)) _) | (refine Below.setCell ?_ (by first | omega | (simp; done) | (simp <;> omega)) _))) (hb.mono (by first | omega | (simp; done) | (simp <;> omega))))
  have z2_0 : w.heap.size < w2.heap.size := by omega
  clear hb
  go_wp2_with fail
  refine Calls.mono (sz_grant x.A3 x.n3 x.c3 (left - ((x.n1 + MTab.szs (x.l1.map DTab.dat) : Nat) : Int) - ((x.n2 + MPackage.szs (x.l2.map DPackage.dat) : Nat) : Int)) _ m3 (by omega) (by omega)) ?_
  rintro e w3 hq
  obtain ⟨rfl, hb⟩ := hq.says
  obtain ⟨hc3, hf3⟩ := bcell hb
  have hs3 := hb.size
  (try simp at hs3)
  replace HB := Lib.hid (show Below w.heap.size w w3 from Below.trans (by repeat (first | with_reducible exact Below.refl _ _ | (with_reducible exact HB.out) | (with_reducible refine Below.setCell ?_ (by first | omega | (simp; done) | (simp <;> omega)) _) | (with_reducible refine Below.alloc ?_ (by first | omega | (simp; done) | (simp <;> omega)) _) | (refine Below.alloc ?_ (by first | omega | (simp; done) | (simp <;> omega)) _) | (refine Below.setCell ?_ (by first | omega | (simp; done) | (simp <;> omega)) _))) (hb.mono (by first | omega | (simp; done) | (simp <;> omega))))
  have z3_0 : w.heap.size < w3.heap.size := by omega
  clear hb
  go_wp2_with fail
  refine Calls.mono (sz_limit x.A4 x.n4 x.c4 (left - ((x.n1 + MTab.szs (x.l1.map DTab.dat) : Nat) : Int) - ((x.n2 + MPackage.szs (x.l2.map DPackage.dat) : Nat) : Int) - (x.n3 : Int)) _ m4 (by omega) (by omega)) ?_
  rintro e w4 hq
  obtain ⟨rfl, hb⟩ := hq.says
  obtain ⟨hc4, hf4⟩ := bcell hb
  have hs4 := hb.size
  (try simp at hs4)
  replace HB := Lib.hid (show Below w.heap.size w w4 from Below.trans (by repeat (first | with_reducible exact Below.refl _ _ | (with_reducible exact HB.out) | (with_reducible refine Below.setCell ?_ (by first | omega | (simp; done) | (simp <;> omega)) _) | (with_reducible refine Below.alloc ?_ (by first | omega | (simp; done) | (simp <;> omega)) _) | (refine Below.alloc ?_ (by first | omega | (simp; done) | (simp <;> omega)) _) | (refine Below.setCell ?_ (by first | omega | (simp; done) | (simp <;> omega)) _))) (hb.mono (by first | omega | (simp; done) | (simp <;> omega))))
  have z4_0 : w.heap.size < w4.heap.size := by omega
  clear hb
  go_wp2_with fail
  refine Calls.mono (sz_rule x.A5 x.n5 x.c5 (left - ((x.n1 + MTab.szs (x.l1.map DTab.dat) : Nat) : Int) - ((x.n2 + MPackage.szs (x.l2.map DPackage.dat) : Nat) : Int) - (x.n3 : Int) - (x.n4 : Int)) _ m5 (by omega) (by omega)) ?_
  rintro e w5 hq
  obtain ⟨rfl, hb⟩ := hq.says
  obtain ⟨hc5, hf5⟩ := bcell hb
  have hs5 := hb.size
  (try simp at hs5)
  replace HB := Lib.hid (show Below w.heap.size w w5 from Below.trans (by repeat (first | with_reducible exact Below.refl _ _ | (with_reducible exact HB.out) | (with_reducible refine Below.setCell ?_ (by first | omega | (simp; done) | (simp <;> omega)) _) | (with_reducible refine Below.alloc ?_ (by first | omega | (simp; done) | (simp <;> omega)) _) | (refine Below.alloc ?_ (by first | omega | (simp; done) | (simp <;> omega)) _) | (refine Below.setCell ?_ (by first | omega | (simp; done) | (simp <;> omega)) _))) (hb.mono (by first | omega | (simp; done) | (simp <;> omega))))
  have z5_0 : w.heap.size < w5.heap.size := by omega
  clear hb
  go_wp2_with fail
  refine Calls.mono (szno_stored x.A6 x.n6 x.c6 (left - ((x.n1 + MTab.szs (x.l1.map DTab.dat) : Nat) : Int) - ((x.n2 + MPackage.szs (x.l2.map DPackage.dat) : Nat) : Int) - (x.n3 : Int) - (x.n4 : Int) - (x.n5 : Int)) _ m6 (by omega) (by omega) (by omega)) ?_
  rintro e w6 hq
  obtain ⟨rfl, hb⟩ := hq.says
  obtain ⟨hc6, hf6⟩ := bcell hb
  have hs6 := hb.size
  (try simp at hs6)
  replace HB := Lib.hid (show Below w.heap.size w w6 from Below.trans (by repeat (first | with_reducible exact Below.refl _ _ | (with_reducible exact HB.out) | (with_reducible refine Below.setCell ?_ (by first | omega | (simp; done) | (simp <;> omega)) _) | (with_reducible refine Below.alloc ?_ (by first | omega | (simp; done) | (simp <;> omega)) _) | (refine Below.alloc ?_ (by first | omega | (simp; done) | (simp <;> omega)) _) | (refine Below.setCell ?_ (by first | omega | (simp; done) | (simp <;> omega)) _))) (hb.mono (by first | omega | (simp; done) | (simp <;> omega))))
  have z6_0 : w.heap.size < w6.heap.size := by omega
  clear hb
  go_wp2_with fail
  go_ret
  exact ⟨rfl, by repeat (first | with_reducible exact Below.refl _ _ | (with_reducible exact HB.out) | (with_reducible refine Below.setCell ?_ (by first | omega | (simp; done) | (simp <;> omega)) _) | (with_reducible refine Below.alloc ?_ (by first | omega | (simp; done) | (simp <;> omega)) _) | (refine Below.alloc ?_ (by first | omega | (simp; done) | (simp <;> omega)) _) | (refine Below.setCell ?_ (by first | omega | (simp; done) | (simp <;> omega)) _))⟩

theorem eq_browser_same (x y : DBrowser) (lo hi lo' hi' : Nat) (w : World) (hd : y.dat = x.dat) (hz : x.dat.sz ≤ 1048576) (h : x.rd w lo hi) (h' : y.rd w lo' hi') :
    Calls Tryz.prog 15 #[.agg #[.int .i64 x.p0, .slice x.A1 x.n1 x.c1, .slice x.A2 x.n2 x.c2, .slice x.A3 x.n3 x.c3, .slice x.A4 x.n4 x.c4, .slice x.A5 x.n5 x.c5, .slice x.A6 x.n6 x.c6, .int .i64 x.p7], .agg #[.int .i64 y.p0, .slice y.A1 y.n1 y.c1, .slice y.A2 y.n2 y.c2, .slice y.A3 y.n3 y.c3, .slice y.A4 y.n4 y.c4, .slice y.A5 y.n5 y.c5, .slice y.A6 y.n6 y.c6, .int .i64 y.p7]] w (Says (.bool true) w) := by
  have HLX := h.len
  have HLY := h'.len
  rw [h.sz] at hz
  have HT : Hid (∀ t ∈ x.l1, t.dat.sz ≤ 1048576) := Lib.hid fun t ht => by
    obtain ⟨i, hi, rfl⟩ := List.mem_iff_getElem.1 ht
    have := MTab.szs_mem (x.l1.map DTab.dat) i (x.l1[i]).dat (by rw [List.getElem?_map, List.getElem?_eq_getElem hi]; rfl)
    omega
  have HP : Hid (∀ t ∈ x.l2, t.dat.sz ≤ 1048576) := Lib.hid fun t ht => by
    obtain ⟨i, hi, rfl⟩ := List.mem_iff_getElem.1 ht
    have := MPackage.szs_mem (x.l2.map DPackage.dat) i (x.l2[i]).dat (by rw [List.getElem?_map, List.getElem?_eq_getElem hi]; rfl)
    omega
  have hz' : x.n1 + x.n2 + x.n3 + x.n4 + x.n5 + x.n6 ≤ 1048576 := by omega
  clear hz
  obtain ⟨h1, h2, h3, h4, h5, h6⟩ := h
  obtain ⟨k1, k2, k3, k4, k5, k6⟩ := h'
  obtain ⟨p0', A1', n1', c1', l1', A2', n2', c2', l2', A3', n3', c3', l3', A4', n4', c4', l4', A5', n5', c5', l5', A6', n6', c6', l6', p7'⟩ := y
  simp only [DBrowser.dat, MBrowser.mk.injEq] at hd
  obtain ⟨rfl, hd1, hd2, rfl, rfl, rfl, rfl, rfl⟩ := hd
  dsimp only at HLX HLY k1 k2 k3 k4 k5 k6
  have E1 := Lib.hid hd1
  have E2 := Lib.hid hd2
  have hl1 := congrArg List.length hd1
  have hl2 := congrArg List.length hd2
  simp only [List.length_map] at hl1 hl2
  obtain rfl : n1' = x.n1 := by omega
  obtain rfl : n2' = x.n2 := by omega
  obtain rfl : n3' = x.n3 := by omega
  obtain rfl : n4' = x.n4 := by omega
  obtain rfl : n5' = x.n5 := by omega
  obtain rfl : n6' = x.n6 := by omega
  clear HLX HLY hd1 hd2 hl1 hl2
  have R1 := Lib.hid h1
  have R1' := Lib.hid k1
  clear h1 k1
  have R2 := Lib.hid h2
  have R2' := Lib.hid k2
  clear h2 k2
  have R3 := Lib.hid h3.2
  have R3' := Lib.hid k3.2
  clear h3 k3
  have R4 := Lib.hid h4.2
  have R4' := Lib.hid k4.2
  clear h4 k4
  have R5 := Lib.hid h5.2
  have R5' := Lib.hid k5.2
  clear h5 k5
  have R6 := Lib.hid h6.2
  have R6' := Lib.hid k6.2
  clear h6 k6
  have HB := Lib.hid (Below.refl w.heap.size w)
  go_enter Tryz.func15, Tryz.ntmps15
  go_wp2_with fail
  refine Calls.mono (eq_tabs_same x.l1 l1' x.A1 A1' x.n1 x.n1 x.c1 c1' lo hi lo' hi' _ E1.out (by omega) HT.out (R1.out.new (by repeat (first | with_reducible exact Below.refl _ _ | (with_reducible exact HB.out) | (with_reducible refine Below.setCell ?_ (by first | omega | (simp; done) | (simp <;> omega)) _) | (with_reducible refine Below.alloc ?_ (by first | omega | (simp; done) | (simp <;> omega)) _) | (refine Below.alloc ?_ (by first | omega | (simp; done) | (simp <;> omega)) _) | (refine Below.setCell ?_ (by first | omega | (simp; done) | (simp <;> omega)) _)))) (R1'.out.new (by repeat (first | with_reducible exact Below.refl _ _ | (with_reducible exact HB.out) | (with_reducible refine Below.setCell ?_ (by first | omega | (simp; done) | (simp <;> omega)) _) | (with_reducible refine Below.alloc ?_ (by first | omega | (simp; done) | (simp <;> omega)) _) | (refine Below.alloc ?_ (by first | omega | (simp; done) | (simp <;> omega)) _) | (refine Below.setCell ?_ (by first | omega | (simp; done) | (simp <;> omega)) _))))) ?_
  rintro e w1 ⟨rfl, hb⟩
  obtain ⟨hc1, hf1⟩ := bcell hb
  have hs1 := hb.size
  (try simp at hs1)
  replace HB := Lib.hid (show Below w.heap.size w w1 from Below.trans (by repeat (first | with_reducible exact Below.refl _ _ | (with_reducible exact HB.out) | (with_reducible refine Below.setCell ?_ (by first | omega | (simp; done) | (simp <;> omega)) _) | (with_reducible refine Below.alloc ?_ (by first | omega | (simp; done) | (simp <;> omega)) _) | (refine Below.alloc ?_ (by first | omega | (simp; done) | (simp <;> omega)) _) | (refine Below.setCell ?_ (by first | omega | (simp; done) | (simp <;> omega)) _))) (hb.mono (by first | omega | (simp; done) | (simp <;> omega))))
  have z1_0 : w.heap.size < w1.heap.size := by omega
  have z1_1 : w.heap.size + 1 < w1.heap.size := by omega
  clear hb
  go_wp2_with fail
  refine Calls.mono (eq_packages_same x.l2 l2' x.A2 A2' x.n2 x.n2 x.c2 c2' lo hi lo' hi' _ E2.out (by omega) HP.out (R2.out.new (by repeat (first | with_reducible exact Below.refl _ _ | (with_reducible exact HB.out) | (with_reducible refine Below.setCell ?_ (by first | omega | (simp; done) | (simp <;> omega)) _) | (with_reducible refine Below.alloc ?_ (by first | omega | (simp; done) | (simp <;> omega)) _) | (refine Below.alloc ?_ (by first | omega | (simp; done) | (simp <;> omega)) _) | (refine Below.setCell ?_ (by first | omega | (simp; done) | (simp <;> omega)) _)))) (R2'.out.new (by repeat (first | with_reducible exact Below.refl _ _ | (with_reducible exact HB.out) | (with_reducible refine Below.setCell ?_ (by first | omega | (simp; done) | (simp <;> omega)) _) | (with_reducible refine Below.alloc ?_ (by first | omega | (simp; done) | (simp <;> omega)) _) | (refine Below.alloc ?_ (by first | omega | (simp; done) | (simp <;> omega)) _) | (refine Below.setCell ?_ (by first | omega | (simp; done) | (simp <;> omega)) _))))) ?_
  rintro e w2 ⟨rfl, hb⟩
  obtain ⟨hc2, hf2⟩ := bcell hb
  have hs2 := hb.size
  (try simp at hs2)
  replace HB := Lib.hid (show Below w.heap.size w w2 from Below.trans (by repeat (first | with_reducible exact Below.refl _ _ | (with_reducible exact HB.out) | (with_reducible refine Below.setCell ?_ (by first | omega | (simp; done) | (simp <;> omega)) _) | (with_reducible refine Below.alloc ?_ (by first | omega | (simp; done) | (simp <;> omega)) _) | (refine Below.alloc ?_ (by first | omega | (simp; done) | (simp <;> omega)) _) | (refine Below.setCell ?_ (by first | omega | (simp; done) | (simp <;> omega)) _))) (hb.mono (by first | omega | (simp; done) | (simp <;> omega))))
  have z2_0 : w.heap.size < w2.heap.size := by omega
  have z2_1 : w.heap.size + 1 < w2.heap.size := by omega
  clear hb
  go_wp2_with fail
  refine Calls.mono (eq_grant_same x.l3 x.A3 A3' x.n3 x.n3 x.c3 c3' lo hi lo' hi' _ (by omega) (by omega) (R3.out.new (by repeat (first | with_reducible exact Below.refl _ _ | (with_reducible exact HB.out) | (with_reducible refine Below.setCell ?_ (by first | omega | (simp; done) | (simp <;> omega)) _) | (with_reducible refine Below.alloc ?_ (by first | omega | (simp; done) | (simp <;> omega)) _) | (refine Below.alloc ?_ (by first | omega | (simp; done) | (simp <;> omega)) _) | (refine Below.setCell ?_ (by first | omega | (simp; done) | (simp <;> omega)) _)))) (R3'.out.new (by repeat (first | with_reducible exact Below.refl _ _ | (with_reducible exact HB.out) | (with_reducible refine Below.setCell ?_ (by first | omega | (simp; done) | (simp <;> omega)) _) | (with_reducible refine Below.alloc ?_ (by first | omega | (simp; done) | (simp <;> omega)) _) | (refine Below.alloc ?_ (by first | omega | (simp; done) | (simp <;> omega)) _) | (refine Below.setCell ?_ (by first | omega | (simp; done) | (simp <;> omega)) _))))) ?_
  rintro e w3 ⟨rfl, hb⟩
  obtain ⟨hc3, hf3⟩ := bcell hb
  have hs3 := hb.size
  (try simp at hs3)
  replace HB := Lib.hid (show Below w.heap.size w w3 from Below.trans (by repeat (first | with_reducible exact Below.refl _ _ | (with_reducible exact HB.out) | (with_reducible refine Below.setCell ?_ (by first | omega | (simp; done) | (simp <;> omega)) _) | (with_reducible refine Below.alloc ?_ (by first | omega | (simp; done) | (simp <;> omega)) _) | (refine Below.alloc ?_ (by first | omega | (simp; done) | (simp <;> omega)) _) | (refine Below.setCell ?_ (by first | omega | (simp; done) | (simp <;> omega)) _))) (hb.mono (by first | omega | (simp; done) | (simp <;> omega))))
  have z3_0 : w.heap.size < w3.heap.size := by omega
  have z3_1 : w.heap.size + 1 < w3.heap.size := by omega
  clear hb
  go_wp2_with fail
  refine Calls.mono (eq_limit_same x.l4 x.A4 A4' x.n4 x.n4 x.c4 c4' lo hi lo' hi' _ (by omega) (by omega) (R4.out.new (by repeat (first | with_reducible exact Below.refl _ _ | (with_reducible exact HB.out) | (with_reducible refine Below.setCell ?_ (by first | omega | (simp; done) | (simp <;> omega)) _) | (with_reducible refine Below.alloc ?_ (by first | omega | (simp; done) | (simp <;> omega)) _) | (refine Below.alloc ?_ (by first | omega | (simp; done) | (simp <;> omega)) _) | (refine Below.setCell ?_ (by first | omega | (simp; done) | (simp <;> omega)) _)))) (R4'.out.new (by repeat (first | with_reducible exact Below.refl _ _ | (with_reducible exact HB.out) | (with_reducible refine Below.setCell ?_ (by first | omega | (simp; done) | (simp <;> omega)) _) | (with_reducible refine Below.alloc ?_ (by first | omega | (simp; done) | (simp <;> omega)) _) | (refine Below.alloc ?_ (by first | omega | (simp; done) | (simp <;> omega)) _) | (refine Below.setCell ?_ (by first | omega | (simp; done) | (simp <;> omega)) _))))) ?_
  rintro e w4 ⟨rfl, hb⟩
  obtain ⟨hc4, hf4⟩ := bcell hb
  have hs4 := hb.size
  (try simp at hs4)
  replace HB := Lib.hid (show Below w.heap.size w w4 from Below.trans (by repeat (first | with_reducible exact Below.refl _ _ | (with_reducible exact HB.out) | (with_reducible refine Below.setCell ?_ (by first | omega | (simp; done) | (simp <;> omega)) _) | (with_reducible refine Below.alloc ?_ (by first | omega | (simp; done) | (simp <;> omega)) _) | (refine Below.alloc ?_ (by first | omega | (simp; done) | (simp <;> omega)) _) | (refine Below.setCell ?_ (by first | omega | (simp; done) | (simp <;> omega)) _))) (hb.mono (by first | omega | (simp; done) | (simp <;> omega))))
  have z4_0 : w.heap.size < w4.heap.size := by omega
  have z4_1 : w.heap.size + 1 < w4.heap.size := by omega
  clear hb
  go_wp2_with fail
  refine Calls.mono (eq_rule_same x.l5 x.A5 A5' x.n5 x.n5 x.c5 c5' lo hi lo' hi' _ (by omega) (by omega) (R5.out.new (by repeat (first | with_reducible exact Below.refl _ _ | (with_reducible exact HB.out) | (with_reducible refine Below.setCell ?_ (by first | omega | (simp; done) | (simp <;> omega)) _) | (with_reducible refine Below.alloc ?_ (by first | omega | (simp; done) | (simp <;> omega)) _) | (refine Below.alloc ?_ (by first | omega | (simp; done) | (simp <;> omega)) _) | (refine Below.setCell ?_ (by first | omega | (simp; done) | (simp <;> omega)) _)))) (R5'.out.new (by repeat (first | with_reducible exact Below.refl _ _ | (with_reducible exact HB.out) | (with_reducible refine Below.setCell ?_ (by first | omega | (simp; done) | (simp <;> omega)) _) | (with_reducible refine Below.alloc ?_ (by first | omega | (simp; done) | (simp <;> omega)) _) | (refine Below.alloc ?_ (by first | omega | (simp; done) | (simp <;> omega)) _) | (refine Below.setCell ?_ (by first | omega | (simp; done) | (simp <;> omega)) _))))) ?_
  rintro e w5 ⟨rfl, hb⟩
  obtain ⟨hc5, hf5⟩ := bcell hb
  have hs5 := hb.size
  (try simp at hs5)
  replace HB := Lib.hid (show Below w.heap.size w w5 from Below.trans (by repeat (first | with_reducible exact Below.refl _ _ | (with_reducible exact HB.out) | (with_reducible refine Below.setCell ?_ (by first | omega | (simp; done) | (simp <;> omega)) _) | (with_reducible refine Below.alloc ?_ (by first | omega | (simp; done) | (simp <;> omega)) _) | (refine Below.alloc ?_ (by first | omega | (simp; done) | (simp <;> omega)) _) | (refine Below.setCell ?_ (by first | omega | (simp; done) | (simp <;> omega)) _))) (hb.mono (by first | omega | (simp; done) | (simp <;> omega))))
  have z5_0 : w.heap.size < w5.heap.size := by omega
  have z5_1 : w.heap.size + 1 < w5.heap.size := by omega
  clear hb
  go_wp2_with fail
  refine Calls.mono (eq_stored_same x.l6 x.A6 A6' x.n6 x.n6 x.c6 c6' lo hi lo' hi' _ (by omega) (by omega) (R6.out.new (by repeat (first | with_reducible exact Below.refl _ _ | (with_reducible exact HB.out) | (with_reducible refine Below.setCell ?_ (by first | omega | (simp; done) | (simp <;> omega)) _) | (with_reducible refine Below.alloc ?_ (by first | omega | (simp; done) | (simp <;> omega)) _) | (refine Below.alloc ?_ (by first | omega | (simp; done) | (simp <;> omega)) _) | (refine Below.setCell ?_ (by first | omega | (simp; done) | (simp <;> omega)) _)))) (R6'.out.new (by repeat (first | with_reducible exact Below.refl _ _ | (with_reducible exact HB.out) | (with_reducible refine Below.setCell ?_ (by first | omega | (simp; done) | (simp <;> omega)) _) | (with_reducible refine Below.alloc ?_ (by first | omega | (simp; done) | (simp <;> omega)) _) | (refine Below.alloc ?_ (by first | omega | (simp; done) | (simp <;> omega)) _) | (refine Below.setCell ?_ (by first | omega | (simp; done) | (simp <;> omega)) _))))) ?_
  rintro e w6 ⟨rfl, hb⟩
  obtain ⟨hc6, hf6⟩ := bcell hb
  have hs6 := hb.size
  (try simp at hs6)
  replace HB := Lib.hid (show Below w.heap.size w w6 from Below.trans (by repeat (first | with_reducible exact Below.refl _ _ | (with_reducible exact HB.out) | (with_reducible refine Below.setCell ?_ (by first | omega | (simp; done) | (simp <;> omega)) _) | (with_reducible refine Below.alloc ?_ (by first | omega | (simp; done) | (simp <;> omega)) _) | (refine Below.alloc ?_ (by first | omega | (simp; done) | (simp <;> omega)) _) | (refine Below.setCell ?_ (by first | omega | (simp; done) | (simp <;> omega)) _))) (hb.mono (by first | omega | (simp; done) | (simp <;> omega))))
  have z6_0 : w.heap.size < w6.heap.size := by omega
  have z6_1 : w.heap.size + 1 < w6.heap.size := by omega
  clear hb
  go_wp2_with fail
  go_ret
  exact ⟨rfl, by repeat (first | with_reducible exact Below.refl _ _ | (with_reducible exact HB.out) | (with_reducible refine Below.setCell ?_ (by first | omega | (simp; done) | (simp <;> omega)) _) | (with_reducible refine Below.alloc ?_ (by first | omega | (simp; done) | (simp <;> omega)) _) | (refine Below.alloc ?_ (by first | omega | (simp; done) | (simp <;> omega)) _) | (refine Below.setCell ?_ (by first | omega | (simp; done) | (simp <;> omega)) _))⟩

theorem mark_browser (x : DBrowser) (k0 lo hi : Nat) (w : World) (hk0 : k0 + x.cnt ≤ 4294967296) (hz : x.dat.sz ≤ 1048576) (h : x.fr w lo hi) (hw : hi ≤ w.heap.size) :
    Calls Tryz.prog 16 #[.agg #[.int .i64 x.p0, .slice x.A1 x.n1 x.c1, .slice x.A2 x.n2 x.c2, .slice x.A3 x.n3 x.c3, .slice x.A4 x.n4 x.c4, .slice x.A5 x.n5 x.c5, .slice x.A6 x.n6 x.c6, .int .i64 x.p7], .int .i64 (k0 : Int)] w (fun e w' => e = .returned (.int .i64 ((k0 + x.cnt : Nat) : Int)) ∧ Chg lo hi w w') := by
  rw [h.rd.sz] at hz
  have HT : Hid (∀ t ∈ x.l1, t.dat.sz ≤ 1048576) := Lib.hid fun t ht => by
    obtain ⟨i, hi, rfl⟩ := List.mem_iff_getElem.1 ht
    have := MTab.szs_mem (x.l1.map DTab.dat) i (x.l1[i]).dat (by rw [List.getElem?_map, List.getElem?_eq_getElem hi]; rfl)
    omega
  have HP : Hid (∀ t ∈ x.l2, t.dat.sz ≤ 1048576) := Lib.hid fun t ht => by
    obtain ⟨i, hi, rfl⟩ := List.mem_iff_getElem.1 ht
    have := MPackage.szs_mem (x.l2.map DPackage.dat) i (x.l2[i]).dat (by rw [List.getElem?_map, List.getElem?_eq_getElem hi]; rfl)
    omega
  have hz' : x.n1 + x.n2 + x.n3 + x.n4 + x.n5 + x.n6 ≤ 1048576 := by omega
  clear hz
  have hk1 : k0 + ((DTab.cnts x.l1) + (DPackage.cnts x.l2) + (x.n3 * 7) + (x.n4 * 4) + (x.n5 * 8) + (x.n6 * 4)) ≤ 4294967296 := hk0
  obtain ⟨lo1, hi1, lo2, hi2, lo3, hi3, lo4, hi4, lo5, hi5, lo6, hi6, r1, r2, r3, r4, r5, r6, d0, d1, d2, d3, d4, d5, d6, d7, d8, d9, d10, d11, d12⟩ := h
  replace r1 := Lib.hid r1
  replace r2 := Lib.hid r2
  replace r3 := Lib.hid r3.2
  replace r4 := Lib.hid r4.2
  replace r5 := Lib.hid r5.2
  replace r6 := Lib.hid r6.2
  have HC := Lib.hid (Chg.refl lo hi w)
  have KB := Lib.hid (box_new w 40 #[.int .i64 x.p0, .slice x.A1 x.n1 x.c1, .slice x.A2 x.n2 x.c2, .slice x.A3 x.n3 x.c3, .slice x.A4 x.n4 x.c4, .slice x.A5 x.n5 x.c5, .slice x.A6 x.n6 x.c6, .int .i64 x.p7])
  have hs0 : w.heap.size ≤ w.heap.size := Nat.le_refl _
  go_enter Tryz.func16, Tryz.ntmps16
  go_wp2_with fail
  refine Calls.mono (mark_tabs x.l1 x.A1 x.n1 x.c1 lo1 hi1 (k0) _ (by omega) HT.out (by omega) (r1.out.alloc _) (by simp; omega)) ?_
  rintro e w1 ⟨rfl, hc⟩
  replace r2 := Lib.hid ((r2.out.alloc _).chg hc (by omega))
  replace r3 := Lib.hid ((r3.out.alloc _).chg hc (by omega))
  replace r4 := Lib.hid ((r4.out.alloc _).chg hc (by omega))
  replace r5 := Lib.hid ((r5.out.alloc _).chg hc (by omega))
  replace r6 := Lib.hid ((r6.out.alloc _).chg hc (by omega))
  have hs1 : w.heap.size ≤ w1.heap.size := Nat.le_trans (by simp) hc.size
  replace KB := Lib.hid (KB.out.chg hc (by omega))
  replace HC := Lib.hid (Chg.trans (HC.out.alloc _) (hc.mono (by omega) (.inl (by omega))))
  clear hc
  have e0 := KB.out.at_ (j := 0) rfl
  have e1 := KB.out.at_ (j := 1) rfl
  have e2 := KB.out.at_ (j := 2) rfl
  have e3 := KB.out.at_ (j := 3) rfl
  have e4 := KB.out.at_ (j := 4) rfl
  have e5 := KB.out.at_ (j := 5) rfl
  have e6 := KB.out.at_ (j := 6) rfl
  have e7 := KB.out.at_ (j := 7) rfl
  go_wp2_with fail
  clear e0 e1 e2 e3 e4 e5 e6 e7
  refine Calls.mono (mark_packages x.l2 x.A2 x.n2 x.c2 lo2 hi2 (k0 + DTab.cnts x.l1) _ (by omega) HP.out (by omega) r2.out (by omega)) ?_
  rintro e w2 ⟨rfl, hc⟩
  replace r3 := Lib.hid (r3.out.chg hc (by omega))
  replace r4 := Lib.hid (r4.out.chg hc (by omega))
  replace r5 := Lib.hid (r5.out.chg hc (by omega))
  replace r6 := Lib.hid (r6.out.chg hc (by omega))
  have hs2 : w.heap.size ≤ w2.heap.size := Nat.le_trans hs1 hc.size
  replace KB := Lib.hid (KB.out.chg hc (by omega))
  replace HC := Lib.hid (Chg.trans HC.out (hc.mono (by omega) (.inl (by omega))))
  clear hc
  have e0 := KB.out.at_ (j := 0) rfl
  have e1 := KB.out.at_ (j := 1) rfl
  have e2 := KB.out.at_ (j := 2) rfl
  have e3 := KB.out.at_ (j := 3) rfl
  have e4 := KB.out.at_ (j := 4) rfl
  have e5 := KB.out.at_ (j := 5) rfl
  have e6 := KB.out.at_ (j := 6) rfl
  have e7 := KB.out.at_ (j := 7) rfl
  go_wp2_with fail
  clear e0 e1 e2 e3 e4 e5 e6 e7
  refine Calls.mono (mark_grant _ x.A3 x.n3 x.c3 lo3 hi3 (k0 + DTab.cnts x.l1 + DPackage.cnts x.l2) _ (by omega) (by omega) r3.out) ?_
  rintro e w3 ⟨rfl, _, hc, _⟩
  replace r4 := Lib.hid (r4.out.chg hc (by omega))
  replace r5 := Lib.hid (r5.out.chg hc (by omega))
  replace r6 := Lib.hid (r6.out.chg hc (by omega))
  have hs3 : w.heap.size ≤ w3.heap.size := Nat.le_trans hs2 hc.size
  replace KB := Lib.hid (KB.out.chg hc (by omega))
  replace HC := Lib.hid (Chg.trans HC.out (hc.mono (by omega) (.inl (by omega))))
  clear hc
  have e0 := KB.out.at_ (j := 0) rfl
  have e1 := KB.out.at_ (j := 1) rfl
  have e2 := KB.out.at_ (j := 2) rfl
  have e3 := KB.out.at_ (j := 3) rfl
  have e4 := KB.out.at_ (j := 4) rfl
  have e5 := KB.out.at_ (j := 5) rfl
  have e6 := KB.out.at_ (j := 6) rfl
  have e7 := KB.out.at_ (j := 7) rfl
  go_wp2_with fail
  clear e0 e1 e2 e3 e4 e5 e6 e7
  refine Calls.mono (mark_limit _ x.A4 x.n4 x.c4 lo4 hi4 (k0 + DTab.cnts x.l1 + DPackage.cnts x.l2 + x.n3 * 7) _ (by omega) (by omega) r4.out) ?_
  rintro e w4 ⟨rfl, _, hc, _⟩
  replace r5 := Lib.hid (r5.out.chg hc (by omega))
  replace r6 := Lib.hid (r6.out.chg hc (by omega))
  have hs4 : w.heap.size ≤ w4.heap.size := Nat.le_trans hs3 hc.size
  replace KB := Lib.hid (KB.out.chg hc (by omega))
  replace HC := Lib.hid (Chg.trans HC.out (hc.mono (by omega) (.inl (by omega))))
  clear hc
  have e0 := KB.out.at_ (j := 0) rfl
  have e1 := KB.out.at_ (j := 1) rfl
  have e2 := KB.out.at_ (j := 2) rfl
  have e3 := KB.out.at_ (j := 3) rfl
  have e4 := KB.out.at_ (j := 4) rfl
  have e5 := KB.out.at_ (j := 5) rfl
  have e6 := KB.out.at_ (j := 6) rfl
  have e7 := KB.out.at_ (j := 7) rfl
  go_wp2_with fail
  clear e0 e1 e2 e3 e4 e5 e6 e7
  refine Calls.mono (mark_rule _ x.A5 x.n5 x.c5 lo5 hi5 (k0 + DTab.cnts x.l1 + DPackage.cnts x.l2 + x.n3 * 7 + x.n4 * 4) _ (by omega) (by omega) r5.out) ?_
  rintro e w5 ⟨rfl, _, hc, _⟩
  replace r6 := Lib.hid (r6.out.chg hc (by omega))
  have hs5 : w.heap.size ≤ w5.heap.size := Nat.le_trans hs4 hc.size
  replace KB := Lib.hid (KB.out.chg hc (by omega))
  replace HC := Lib.hid (Chg.trans HC.out (hc.mono (by omega) (.inl (by omega))))
  clear hc
  have e0 := KB.out.at_ (j := 0) rfl
  have e1 := KB.out.at_ (j := 1) rfl
  have e2 := KB.out.at_ (j := 2) rfl
  have e3 := KB.out.at_ (j := 3) rfl
  have e4 := KB.out.at_ (j := 4) rfl
  have e5 := KB.out.at_ (j := 5) rfl
  have e6 := KB.out.at_ (j := 6) rfl
  have e7 := KB.out.at_ (j := 7) rfl
  go_wp2_with fail
  clear e0 e1 e2 e3 e4 e5 e6 e7
  refine Calls.mono (mark_stored _ x.A6 x.n6 x.c6 lo6 hi6 (k0 + DTab.cnts x.l1 + DPackage.cnts x.l2 + x.n3 * 7 + x.n4 * 4 + x.n5 * 8) _ (by omega) (by omega) r6.out) ?_
  rintro e w6 ⟨rfl, _, hc, _⟩
  have hs6 : w.heap.size ≤ w6.heap.size := Nat.le_trans hs5 hc.size
  replace KB := Lib.hid (KB.out.chg hc (by omega))
  replace HC := Lib.hid (Chg.trans HC.out (hc.mono (by omega) (.inl (by omega))))
  clear hc
  have e0 := KB.out.at_ (j := 0) rfl
  have e1 := KB.out.at_ (j := 1) rfl
  have e2 := KB.out.at_ (j := 2) rfl
  have e3 := KB.out.at_ (j := 3) rfl
  have e4 := KB.out.at_ (j := 4) rfl
  have e5 := KB.out.at_ (j := 5) rfl
  have e6 := KB.out.at_ (j := 6) rfl
  have e7 := KB.out.at_ (j := 7) rfl
  go_wp2_with fail
  go_ret
  exact ⟨congrArg (fun z : Int => Ending.returned (Value.int .i64 z)) (by simp only [DBrowser.cnt]; push_cast; omega), HC.out⟩

end Go.Proofs.YtkegapaococmcaaGreat
