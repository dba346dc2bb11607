/- Slices of Tab: read, copied, compared, sized, marked. No condition of its own. -/
import Derived.Test.YtjgcgipglmhgeaaGreatDeep
import Derived.Test.YtjgcgipglmhgeaaGreatRTab
import Derived.StillTailTactics
import Derived.Deep.RegionHeld3
import Derived.Deep.DeepCutAuto
namespace Go.Proofs.YtjgcgipglmhgeaaGreat
open Go Go.ChangeShapes Go.WideShapes Go.ChangeAt Go.RowKit Go.Lib
set_option linter.unusedVariables false
set_option linter.unusedSimpArgs false
set_option maxRecDepth 100000
set_option maxHeartbeats 4000000

/-- A Tab as it lies in memory. -/
structure DTab where
  s0 : TSite
  A1 : Option Addr
  n1 : Nat
  c1 : Nat
  l1 : List TNode
  A2 : Option Addr
  n2 : Nat
  c2 : Nat
  l2 : List TEdit
  A3 : Option Addr
  n3 : Nat
  c3 : Nat
  l3 : List Int
  p4 : Int
/-- A Tab as data. -/
structure MTab where
  s0 : TSite
  l1 : List TNode
  l2 : List TEdit
  l3 : List Int
  p4 : Int
def DTab.cells (x : DTab) : List Value := [.int .i64 x.s0.f0, .int .i64 x.s0.f1, .slice x.A1 x.n1 x.c1, .slice x.A2 x.n2 x.c2, .slice x.A3 x.n3 x.c3, .int .i64 x.p4]
theorem DTab.len (x : DTab) : x.cells.length = 6 := rfl
def DTab.dat (x : DTab) : MTab := ⟨x.s0, x.l1, x.l2, x.l3, x.p4⟩
def MTab.ok (x : MTab) : Prop := TSite.fit x.s0 ∧ cNodeOk x.l1 ∧ cEditOk x.l2 ∧ I64s x.l3 ∧ (Lit.int .i64 x.p4).wf = true
/-- How many elements it leads to. -/
def MTab.sz (x : MTab) : Nat := x.l1.length + x.l2.length + x.l3.length
/-- How many numbers marking it takes. -/
def DTab.cnt (x : DTab) : Nat := (x.n1 * 5) + (x.n2 * 6) + (x.n3) + 3
def DTab.cnts (l : List DTab) : Nat := (l.map DTab.cnt).sum
theorem DTab.cnts_one (l : List DTab) (k : Nat) (x : DTab) (h : l[k]? = some x) : DTab.cnts (l.take (k + 1)) = DTab.cnts (l.take k) + x.cnt := by
  rw [DTab.cnts, List.take_add_one, h]; simp [DTab.cnts]
theorem DTab.cnts_le (l : List DTab) (k : Nat) : DTab.cnts (l.take k) ≤ DTab.cnts l := by
  conv => rhs; rw [← List.take_append_drop k l]
  simp only [DTab.cnts, List.map_append, List.sum_append]
  omega
def MTab.szs (l : List MTab) : Nat := (l.map MTab.sz).sum
theorem MTab.szs_one (l : List MTab) (k : Nat) (x : MTab) (h : l[k]? = some x) : MTab.szs (l.take (k + 1)) = MTab.szs (l.take k) + x.sz := by
  rw [MTab.szs, List.take_add_one, h]; simp [MTab.szs]
theorem MTab.szs_le (l : List MTab) (k : Nat) : MTab.szs (l.take k) ≤ MTab.szs l := by
  conv => rhs; rw [← List.take_append_drop k l]
  simp only [MTab.szs, List.map_append, List.sum_append]
  omega
theorem MTab.szs_mem (l : List MTab) (k : Nat) (x : MTab) (h : l[k]? = some x) : x.sz ≤ MTab.szs l := by
  have h1 := MTab.szs_one l k x h
  have h2 := MTab.szs_le l (k + 1)
  omega
/-- Its slices read so, in blocks from lo on and below hi. -/
def DTab.rd (w : World) (lo hi : Nat) (x : DTab) : Prop := (x.n1 ≤ 9223372036854775807 ∧ Rd w lo hi 5 x.A1 x.n1 (cNode x.l1)) ∧ (x.n2 ≤ 9223372036854775807 ∧ Rd w lo hi 6 x.A2 x.n2 (cEdit x.l2)) ∧ (x.n3 ≤ 9223372036854775807 ∧ Rd w lo hi 1 x.A3 x.n3 (i64s x.l3))
theorem DTab.rd_keep {w w' : World} {lo hi : Nat} {x : DTab} (h : x.rd w lo hi) (hk : ∀ b, lo ≤ b → b < hi → b < w.heap.size → w'.heap[b]? = w.heap[b]?) : x.rd w' lo hi := by
  obtain ⟨h1, h2, h3⟩ := h
  exact ⟨⟨h1.1, h1.2.keep hk⟩, ⟨h2.1, h2.2.keep hk⟩, ⟨h3.1, h3.2.keep hk⟩⟩
theorem DTab.rd_mono {w : World} {lo hi lo' hi' : Nat} {x : DTab} (h : x.rd w lo hi) (p1 : lo' ≤ lo) (p2 : hi ≤ hi') : x.rd w lo' hi' := by
  obtain ⟨h1, h2, h3⟩ := h
  exact ⟨⟨h1.1, h1.2.mono p1 p2⟩, ⟨h2.1, h2.2.mono p1 p2⟩, ⟨h3.1, h3.2.mono p1 p2⟩⟩
theorem DTab.rd_old {w : World} {lo hi : Nat} {x : DTab} (h : x.rd w lo hi) : x.rd w 0 w.heap.size := by
  obtain ⟨h1, h2, h3⟩ := h
  exact ⟨⟨h1.1, h1.2.old (by decide)⟩, ⟨h2.1, h2.2.old (by decide)⟩, ⟨h3.1, h3.2.old (by decide)⟩⟩
theorem DTab.rd_lens {w : World} {lo hi : Nat} {x : DTab} (h : x.rd w lo hi) : x.l1.length = x.n1 ∧ x.l2.length = x.n2 ∧ x.l3.length = x.n3 := by
  obtain ⟨h1, h2, h3⟩ := h
  exact ⟨(rd_len TNode.len h1.2 (by decide)), (rd_len TEdit.len h2.2 (by decide)), (by have q := h3.2.1; simpa [i64s] using q)⟩
theorem DTab.rd_sz {w : World} {lo hi : Nat} {x : DTab} (h : x.rd w lo hi) : x.dat.sz = x.n1 + x.n2 + x.n3 := by
  obtain ⟨h1, h2, h3⟩ := DTab.rd_lens h
  simp only [MTab.sz, DTab.dat]
  omega
/-- Its slices are the maker's own, each in blocks of its own from lo on and below hi. -/
def DTab.fr (w : World) (lo hi : Nat) (x : DTab) : Prop := ∃ (lo1 hi1 lo2 hi2 lo3 hi3 : Nat), (x.n1 ≤ 9223372036854775807 ∧ Fr w lo1 hi1 70 5 x.A1 x.n1 x.c1 (cNode x.l1)) ∧ (x.n2 ≤ 9223372036854775807 ∧ Fr w lo2 hi2 157 6 x.A2 x.n2 x.c2 (cEdit x.l2)) ∧ (x.n3 ≤ 9223372036854775807 ∧ Fr w lo3 hi3 3 1 x.A3 x.n3 x.c3 (i64s x.l3)) ∧ SepTab lo hi lo1 hi1 lo2 hi2 lo3 hi3
theorem DTab.fr_keep {w w' : World} {lo hi : Nat} {x : DTab} (h : x.fr w lo hi) (hk : ∀ b, lo ≤ b → b < hi → b < w.heap.size → w'.heap[b]? = w.heap[b]?) : x.fr w' lo hi := by
  obtain ⟨lo1, hi1, lo2, hi2, lo3, hi3, h1, h2, h3, hs⟩ := h
  have hd := SepTab_bd hs
  exact ⟨lo1, hi1, lo2, hi2, lo3, hi3, ⟨h1.1, h1.2.keep fun b h1 h2 h3 => hk b (by omega) (by omega) h3⟩, ⟨h2.1, h2.2.keep fun b h1 h2 h3 => hk b (by omega) (by omega) h3⟩, ⟨h3.1, h3.2.keep fun b h1 h2 h3 => hk b (by omega) (by omega) h3⟩, hs⟩
theorem DTab.fr_mono {w : World} {lo hi lo' hi' : Nat} {x : DTab} (h : x.fr w lo hi) (h1 : lo' ≤ lo) (h2 : hi ≤ hi') : x.fr w lo' hi' := by
  obtain ⟨lo1, hi1, lo2, hi2, lo3, hi3, h1, h2, h3, hs⟩ := h
  refine ⟨lo1, hi1, lo2, hi2, lo3, hi3, h1, h2, h3, ?_⟩
  unfold SepTab at hs ⊢
  omega
theorem DTab.fr_rd {w : World} {lo hi : Nat} {x : DTab} (h : x.fr w lo hi) : x.rd w lo hi := by
  obtain ⟨lo1, hi1, lo2, hi2, lo3, hi3, h1, h2, h3, hs⟩ := h
  have hd := SepTab_bd hs
  exact ⟨⟨h1.1, h1.2.rd.mono (by omega) (by omega)⟩, ⟨h2.1, h2.2.rd.mono (by omega) (by omega)⟩, ⟨h3.1, h3.2.rd.mono (by omega) (by omega)⟩⟩
def DTab.caps (x : DTab) : Prop := x.n1 ≤ x.c1 ∧ x.n2 ≤ x.c2 ∧ x.n3 ≤ x.c3
theorem DTab.fr_caps {w : World} {lo hi : Nat} {x : DTab} (h : x.fr w lo hi) : x.caps := by
  obtain ⟨lo1, hi1, lo2, hi2, lo3, hi3, h1, h2, h3, hs⟩ := h
  exact ⟨h1.2.cap, h2.2.cap, h3.2.cap⟩
def DTab.frl (w : World) : Nat → Nat → List DTab → Prop
  | lo, hi, [] => lo ≤ hi
  | lo, hi, x :: xs => ∃ m, lo ≤ m ∧ m ≤ hi ∧ x.fr w lo m ∧ DTab.frl w m hi xs
theorem DTab.frl_le {w : World} : ∀ {xs : List DTab} {lo hi : Nat}, DTab.frl w lo hi xs → lo ≤ hi
  | [], _, _, h => h
  | x :: xs, lo, hi, ⟨m, h1, h2, _, _⟩ => Nat.le_trans h1 h2
theorem DTab.frl_keep {w w' : World} : ∀ {xs : List DTab} {lo hi : Nat}, DTab.frl w lo hi xs → (∀ b, lo ≤ b → b < hi → b < w.heap.size → w'.heap[b]? = w.heap[b]?) → DTab.frl w' lo hi xs
  | [], _, _, h, _ => h
  | x :: xs, lo, hi, ⟨m, h1, h2, h3, h4⟩, hk => ⟨m, h1, h2, DTab.fr_keep h3 fun b p q r => hk b p (by omega) r, DTab.frl_keep h4 fun b p q r => hk b (by omega) q r⟩
theorem DTab.frl_up {w : World} : ∀ {xs : List DTab} {lo hi hi' : Nat}, DTab.frl w lo hi xs → hi ≤ hi' → DTab.frl w lo hi' xs
  | [], _, _, _, h, h' => Nat.le_trans h h'
  | x :: xs, lo, hi, hi', ⟨m, h1, h2, h3, h4⟩, h' => ⟨m, h1, Nat.le_trans h2 h', h3, DTab.frl_up h4 h'⟩
theorem DTab.frl_snoc {w : World} {y : DTab} : ∀ {xs : List DTab} {lo m m' hi : Nat}, DTab.frl w lo m xs → y.fr w m' hi → m ≤ m' → m' ≤ hi → DTab.frl w lo hi (xs ++ [y])
  | [], lo, m, m', hi, h, hy, h1, h2 => by
    have h : lo ≤ m := h
    exact ⟨hi, by omega, Nat.le_refl _, DTab.fr_mono hy (by omega) (Nat.le_refl _), Nat.le_refl _⟩
  | x :: xs, lo, m, m', hi, ⟨q, h1, h2, h3, h4⟩, hy, h5, h6 => ⟨q, h1, by omega, h3, DTab.frl_snoc h4 hy h5 h6⟩
theorem DTab.frl_rd {w : World} : ∀ {xs : List DTab} {lo hi : Nat}, DTab.frl w lo hi xs → ∀ x ∈ xs, x.rd w lo hi
  | [], _, _, _, x, hx => by cases hx
  | y :: xs, lo, hi, ⟨m, h1, h2, h3, h4⟩, x, hx => by
    rcases List.mem_cons.1 hx with rfl | hx
    · exact DTab.rd_mono (DTab.fr_rd h3) (Nat.le_refl _) h2
    · exact DTab.rd_mono (DTab.frl_rd h4 x hx) h1 (Nat.le_refl _)
theorem DTab.frl_caps {w : World} : ∀ {xs : List DTab} {lo hi : Nat}, DTab.frl w lo hi xs → ∀ x ∈ xs, x.caps
  | [], _, _, _, x, hx => by cases hx
  | y :: xs, lo, hi, ⟨m, h1, h2, h3, h4⟩, x, hx => by
    rcases List.mem_cons.1 hx with rfl | hx
    · exact DTab.fr_caps h3
    · exact DTab.frl_caps h4 x hx
theorem DTab.frl_drop {w : World} : ∀ {xs : List DTab} {lo hi k : Nat} {x : DTab}, DTab.frl w lo hi (xs.drop k) → xs[k]? = some x → ∃ m, lo ≤ m ∧ m ≤ hi ∧ x.fr w lo m ∧ DTab.frl w m hi (xs.drop (k + 1)) := by
  intro xs lo hi k x h hx
  have hk : k < xs.length := (List.getElem?_eq_some_iff.1 hx).1
  rw [List.drop_eq_getElem_cons hk, (List.getElem?_eq_some_iff.1 hx).2] at h
  exact h
/-- A slice of them that reads so. -/
def RdTab (w : World) (lo hi : Nat) (A : Option Addr) (n : Nat) (xs : List DTab) : Prop := n ≤ 9223372036854775807 ∧ Rd w lo hi 6 A n (xs.flatMap DTab.cells) ∧ ∀ x ∈ xs, x.rd w lo hi
/-- A slice of them that is the maker's own. -/
def FrTab (w : World) (lo hi : Nat) (A : Option Addr) (n c : Nat) (xs : List DTab) : Prop := n ≤ 9223372036854775807 ∧ ∃ m, lo ≤ m ∧ m ≤ hi ∧ Fr w lo m 61 6 A n c (xs.flatMap DTab.cells) ∧ DTab.frl w m hi xs
section
variable {w w' : World} {lo hi lo' hi' n c : Nat} {A : Option Addr} {xs : List DTab}
theorem RdTab.keep (h : RdTab w lo hi A n xs) (hk : ∀ b, lo ≤ b → b < hi → b < w.heap.size → w'.heap[b]? = w.heap[b]?) : RdTab w' lo hi A n xs := ⟨h.1, h.2.1.keep hk, fun x hx => DTab.rd_keep (h.2.2 x hx) hk⟩
theorem RdTab.new (h : RdTab w lo hi A n xs) (hb : Below w.heap.size w w') : RdTab w' lo hi A n xs := h.keep fun b _ _ h3 => hb.block b h3
theorem RdTab.mono (h : RdTab w lo hi A n xs) (h1 : lo' ≤ lo) (h2 : hi ≤ hi') : RdTab w lo' hi' A n xs := ⟨h.1, h.2.1.mono h1 h2, fun x hx => DTab.rd_mono (h.2.2 x hx) h1 h2⟩
theorem RdTab.old (h : RdTab w lo hi A n xs) : RdTab w 0 w.heap.size A n xs := ⟨h.1, h.2.1.old (by decide), fun x hx => DTab.rd_old (h.2.2 x hx)⟩
theorem RdTab.len (h : RdTab w lo hi A n xs) : xs.length = n := rd_len DTab.len h.2.1 (by decide)
theorem RdTab.at_ (h : RdTab w lo hi A n xs) {k : Nat} {x : DTab} (hx : xs[k]? = some x) : x.rd w lo hi := h.2.2 x (List.mem_of_getElem? hx)
theorem FrTab.keep (h : FrTab w lo hi A n c xs) (hk : ∀ b, lo ≤ b → b < hi → b < w.heap.size → w'.heap[b]? = w.heap[b]?) : FrTab w' lo hi A n c xs := by
  obtain ⟨h0, m, h1, h2, h3, h4⟩ := h
  exact ⟨h0, m, h1, h2, h3.keep fun b p q r => hk b p (by omega) r, DTab.frl_keep h4 fun b p q r => hk b (by omega) q r⟩
theorem FrTab.new (h : FrTab w lo hi A n c xs) (hb : Below w.heap.size w w') : FrTab w' lo hi A n c xs := h.keep fun b _ _ h3 => hb.block b h3
theorem FrTab.alloc (h : FrTab w lo hi A n c xs) (o : Obj) : FrTab (w.alloc o) lo hi A n c xs := h.keep fun b _ _ h3 => Below.heap_alloc w o b h3
theorem FrTab.put (h : FrTab w lo hi A n c xs) {p : Addr} (hp : p.block < lo ∨ hi ≤ p.block) (u : Value) : FrTab (w.setCell p u) lo hi A n c xs :=
  h.keep fun b h1 h2 _ => Below.heap_setCell w p u b (by rintro rfl; omega)
theorem FrTab.chg (h : FrTab w lo hi A n c xs) (hc : Chg lo' hi' w w') (hd : hi ≤ lo' ∨ hi' ≤ lo ∨ hi' ≤ lo') : FrTab w' lo hi A n c xs := h.keep fun b h1 h2 h3 => hc.block b h3 (by omega)
theorem FrTab.mono (h : FrTab w lo hi A n c xs) (h1 : lo' ≤ lo) (h2 : hi ≤ hi') : FrTab w lo' hi' A n c xs := by
  obtain ⟨h0, m, p1, p2, h3, h4⟩ := h
  exact ⟨h0, m, by omega, by omega, h3.mono h1 (Nat.le_refl _), DTab.frl_up h4 h2⟩
theorem FrTab.rd (h : FrTab w lo hi A n c xs) : RdTab w lo hi A n xs := by
  obtain ⟨h0, m, h1, h2, h3, h4⟩ := h
  exact ⟨h0, h3.rd.mono (Nat.le_refl _) h2, fun x hx => DTab.rd_mono (DTab.frl_rd h4 x hx) h1 (Nat.le_refl _)⟩
end
/-- A call that answers a new slice of these. -/
def MakesTabs (xs : List DTab) (n : Nat) (w : World) (e : Ending) (w' : World) : Prop :=
  ∃ (A : Option Addr) (c : Nat) (ys : List DTab), e = .returned (.slice A n c) ∧ ys.map DTab.dat = xs.map DTab.dat ∧ FrTab w' w.heap.size w'.heap.size A n c ys ∧ Below w.heap.size w w'

theorem DTab.cnts_sz {w : World} {lo hi : Nat} : ∀ {xs : List DTab}, (∀ x ∈ xs, x.rd w lo hi) → DTab.cnts xs ≤ 8 * (xs.length + MTab.szs (xs.map DTab.dat))
  | [], _ => by simp [DTab.cnts]
  | x :: xs, h => by
    have ih := DTab.cnts_sz (xs := xs) (fun y hy => h y (List.mem_cons_of_mem _ hy))
    have hx := DTab.rd_sz (h x (List.mem_cons_self ..))
    have hc : x.cnt ≤ 8 * (1 + x.dat.sz) := by rw [hx]; simp only [DTab.cnt]; omega
    simp only [DTab.cnts, MTab.szs, List.map_cons, List.sum_cons, List.length_cons] at ih ⊢
    omega

section
variable {H : Type} {enc : TypeId × Value → H}
theorem read_tab {W : World} {fuel : Nat} {cs : List Value} {y : DataW H × List MemPlace} (hq : DataW.trod enc Tryz.prog W 0 (fun _ => true) true fuel 88 cs = some y) (hlt : ∀ x ∈ y.2, x.block < W.heap.size) :
    ∃ x : DTab, cs = x.cells ∧ x.rd W 0 W.heap.size ∧ x.dat.ok := by
  obtain ⟨ys, n, _, hx, hlen, hyl, hf⟩ := DataW.trod_struct Tryz.underlying88 hq
  have hx2 := congrArg Prod.snd hx
  simp only at hx2
  rw [hx2] at hlt
  have hlen : cs.length = 6 := hlen.trans (by kernel_rfl)
  have hyl : ys.length = 5 := hyl
  have hlt' : ∀ (i : Nat) (y : DataW H × List MemPlace), ys[i]? = some y → ∀ x ∈ y.2, x.block < W.heap.size := fun i y hy x hx => hlt x (List.mem_flatMap.2 ⟨y, List.mem_of_getElem? hy, hx⟩)
  match cs, hlen with
  | [z0, z1, z2, z3, z4, z5], _ =>
    have h0 := hf 0 _ rfl
    have h0' : DataW.trod enc Tryz.prog W 0 (fun _ => true) true n 84 [z0, z1] = some (ys[0]'(by omega)) := by
      refine Eq.trans ?_ (h0.trans (List.getElem?_eq_getElem (by omega)))
      rfl
    obtain ⟨x0, e0, g0⟩ := read_site h0'
    simp only [TSite.cells, List.cons.injEq, and_true] at e0
    have h1 := hf 1 _ rfl
    have h1' : DataW.trod enc Tryz.prog W 0 (fun _ => true) true n 85 [z2] = some (ys[1]'(by omega)) := by
      refine Eq.trans ?_ (h1.trans (List.getElem?_eq_getElem (by omega)))
      rfl
    obtain ⟨A1, n1, c1, l1, e1, m1, r1, k1⟩ := rows_trod (c := TNode.cells) (fit := TNode.fit) (d := (ys[1]'(by omega)).1) (p := (ys[1]'(by omega)).2) Tryz.underlying85 (by kernel_rfl) TNode.len (by decide) (fun h => read_node h) h1' (hlt' 1 _ (List.getElem?_eq_getElem (by omega)))
    have h2 := hf 2 _ rfl
    have h2' : DataW.trod enc Tryz.prog W 0 (fun _ => true) true n 86 [z3] = some (ys[2]'(by omega)) := by
      refine Eq.trans ?_ (h2.trans (List.getElem?_eq_getElem (by omega)))
      rfl
    obtain ⟨A2, n2, c2, l2, e2, m2, r2, k2⟩ := rows_trod (c := TEdit.cells) (fit := TEdit.fit) (d := (ys[2]'(by omega)).1) (p := (ys[2]'(by omega)).2) Tryz.underlying86 (by kernel_rfl) TEdit.len (by decide) (fun h => read_edit h) h2' (hlt' 2 _ (List.getElem?_eq_getElem (by omega)))
    have h3 := hf 3 _ rfl
    have h3' : DataW.trod enc Tryz.prog W 0 (fun _ => true) true n 59 [z4] = some (ys[3]'(by omega)) := by
      refine Eq.trans ?_ (h3.trans (List.getElem?_eq_getElem (by omega)))
      rfl
    obtain ⟨A3, n3, c3, l3, e3, m3, r3, k3⟩ := ints_trod (d := (ys[3]'(by omega)).1) (p := (ys[3]'(by omega)).2) Tryz.underlying59 Tryz.underlying3 (by kernel_rfl) h3' (hlt' 3 _ (List.getElem?_eq_getElem (by omega)))
    have h4 := hf 4 _ rfl
    have h4' : DataW.trod enc Tryz.prog W 0 (fun _ => true) true n 3 [z5] = some (ys[4]'(by omega)) := by
      refine Eq.trans ?_ (h4.trans (List.getElem?_eq_getElem (by omega)))
      rfl
    obtain ⟨x4, e4, _, w4⟩ := DataW.trod_int Tryz.underlying3 h4'
    refine ⟨⟨x0, A1, n1, c1, l1, A2, n2, c2, l2, A3, n3, c3, l3, x4⟩, ?_, ⟨⟨Nat.le_trans m1 (by decide), r1⟩, ⟨Nat.le_trans m2 (by decide), r2⟩, ⟨Nat.le_trans m3 (by decide), r3⟩⟩, ⟨g0, k1, k2, k3, w4⟩⟩
    simp only [List.cons.injEq, and_true] at e0 e1 e2 e3 e4
    simp_all [DTab.cells]
theorem trod_tabs {W : World} {fuel : Nat} {cs : List Value} {d : DataW H} {p : List MemPlace} (hf : DataW.trod enc Tryz.prog W 0 (fun _ => true) true fuel 22 cs = some (d, p)) (hlt : ∀ x ∈ p, x.block < W.heap.size) :
    ∃ (A : Option Addr) (n cap : Nat) (l : List DTab), cs = [.slice A n cap] ∧ RdTab W 0 W.heap.size A n l ∧ Hid (∀ x ∈ l, x.dat.ok) := by
  obtain ⟨A, n, cap, l, h1, h2, h3, h4⟩ := rows_trod_at (c := DTab.cells) (fit := fun x => x.rd W 0 W.heap.size ∧ x.dat.ok) Tryz.underlying22 (by kernel_rfl) DTab.len (by decide) (fun h hl => read_tab h hl) hf hlt
  exact ⟨A, n, cap, l, h1, ⟨Nat.le_trans h2 (by decide), h3, fun x hx => (h4.out x hx).1⟩, Lib.hid fun x hx => (h4.out x hx).2⟩
end

end Go.Proofs.YtjgcgipglmhgeaaGreat
