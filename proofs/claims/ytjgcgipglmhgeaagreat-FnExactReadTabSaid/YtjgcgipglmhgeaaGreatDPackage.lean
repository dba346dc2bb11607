/- Slices of Package: read, copied, compared, sized, marked. No condition of its own. -/
import Derived.Test.YtjgcgipglmhgeaaGreatDeep
import Derived.Test.YtjgcgipglmhgeaaGreatRPackage
import Derived.StillTailTactics
import Derived.Deep.RegionHeld3
import Derived.Deep.DeepCutAuto
namespace Go.Proofs.YtjgcgipglmhgeaaGreat
open Go Go.ChangeShapes Go.WideShapes Go.ChangeAt Go.RowKit Go.Lib
set_option linter.unusedVariables false
set_option linter.unusedSimpArgs false
set_option maxRecDepth 100000
set_option maxHeartbeats 4000000

/-- A Package as it lies in memory. -/
structure DPackage where
  p0 : Int
  p1 : Int
  p2 : Int
  A3 : Option Addr
  n3 : Nat
  c3 : Nat
  l3 : List TGrant
  A4 : Option Addr
  n4 : Nat
  c4 : Nat
  l4 : List TFlow
  A5 : Option Addr
  n5 : Nat
  c5 : Nat
  l5 : List TRule
  A6 : Option Addr
  n6 : Nat
  c6 : Nat
  l6 : List TOp
  p7 : Int
/-- A Package as data. -/
structure MPackage where
  p0 : Int
  p1 : Int
  p2 : Int
  l3 : List TGrant
  l4 : List TFlow
  l5 : List TRule
  l6 : List TOp
  p7 : Int
def DPackage.cells (x : DPackage) : List Value := [.int .i64 x.p0, .int .i64 x.p1, .int .i64 x.p2, .slice x.A3 x.n3 x.c3, .slice x.A4 x.n4 x.c4, .slice x.A5 x.n5 x.c5, .slice x.A6 x.n6 x.c6, .int .i64 x.p7]
theorem DPackage.len (x : DPackage) : x.cells.length = 8 := rfl
def DPackage.dat (x : DPackage) : MPackage := ⟨x.p0, x.p1, x.p2, x.l3, x.l4, x.l5, x.l6, x.p7⟩
def MPackage.ok (x : MPackage) : Prop := (Lit.int .i64 x.p0).wf = true ∧ (Lit.int .i64 x.p1).wf = true ∧ (Lit.int .i64 x.p2).wf = true ∧ cGrantOk x.l3 ∧ cFlowOk x.l4 ∧ cRuleOk x.l5 ∧ cOpOk x.l6 ∧ (Lit.int .i64 x.p7).wf = true
/-- How many elements it leads to. -/
def MPackage.sz (x : MPackage) : Nat := x.l3.length + x.l4.length + x.l5.length + x.l6.length
/-- How many numbers marking it takes. -/
def DPackage.cnt (x : DPackage) : Nat := (x.n3 * 7) + (x.n4 * 3) + (x.n5 * 8) + (x.n6 * 4) + 4
def DPackage.cnts (l : List DPackage) : Nat := (l.map DPackage.cnt).sum
theorem DPackage.cnts_one (l : List DPackage) (k : Nat) (x : DPackage) (h : l[k]? = some x) : DPackage.cnts (l.take (k + 1)) = DPackage.cnts (l.take k) + x.cnt := by
  rw [DPackage.cnts, List.take_add_one, h]; simp [DPackage.cnts]
theorem DPackage.cnts_le (l : List DPackage) (k : Nat) : DPackage.cnts (l.take k) ≤ DPackage.cnts l := by
  conv => rhs; rw [← List.take_append_drop k l]
  simp only [DPackage.cnts, List.map_append, List.sum_append]
  omega
def MPackage.szs (l : List MPackage) : Nat := (l.map MPackage.sz).sum
theorem MPackage.szs_one (l : List MPackage) (k : Nat) (x : MPackage) (h : l[k]? = some x) : MPackage.szs (l.take (k + 1)) = MPackage.szs (l.take k) + x.sz := by
  rw [MPackage.szs, List.take_add_one, h]; simp [MPackage.szs]
theorem MPackage.szs_le (l : List MPackage) (k : Nat) : MPackage.szs (l.take k) ≤ MPackage.szs l := by
  conv => rhs; rw [← List.take_append_drop k l]
  simp only [MPackage.szs, List.map_append, List.sum_append]
  omega
theorem MPackage.szs_mem (l : List MPackage) (k : Nat) (x : MPackage) (h : l[k]? = some x) : x.sz ≤ MPackage.szs l := by
  have h1 := MPackage.szs_one l k x h
  have h2 := MPackage.szs_le l (k + 1)
  omega
/-- Its slices read so, in blocks from lo on and below hi. -/
def DPackage.rd (w : World) (lo hi : Nat) (x : DPackage) : Prop := (x.n3 ≤ 9223372036854775807 ∧ Rd w lo hi 7 x.A3 x.n3 (cGrant x.l3)) ∧ (x.n4 ≤ 9223372036854775807 ∧ Rd w lo hi 3 x.A4 x.n4 (cFlow x.l4)) ∧ (x.n5 ≤ 9223372036854775807 ∧ Rd w lo hi 8 x.A5 x.n5 (cRule x.l5)) ∧ (x.n6 ≤ 9223372036854775807 ∧ Rd w lo hi 4 x.A6 x.n6 (cOp x.l6))
theorem DPackage.rd_keep {w w' : World} {lo hi : Nat} {x : DPackage} (h : x.rd w lo hi) (hk : ∀ b, lo ≤ b → b < hi → b < w.heap.size → w'.heap[b]? = w.heap[b]?) : x.rd w' lo hi := by
  obtain ⟨h3, h4, h5, h6⟩ := h
  exact ⟨⟨h3.1, h3.2.keep hk⟩, ⟨h4.1, h4.2.keep hk⟩, ⟨h5.1, h5.2.keep hk⟩, ⟨h6.1, h6.2.keep hk⟩⟩
theorem DPackage.rd_mono {w : World} {lo hi lo' hi' : Nat} {x : DPackage} (h : x.rd w lo hi) (p1 : lo' ≤ lo) (p2 : hi ≤ hi') : x.rd w lo' hi' := by
  obtain ⟨h3, h4, h5, h6⟩ := h
  exact ⟨⟨h3.1, h3.2.mono p1 p2⟩, ⟨h4.1, h4.2.mono p1 p2⟩, ⟨h5.1, h5.2.mono p1 p2⟩, ⟨h6.1, h6.2.mono p1 p2⟩⟩
theorem DPackage.rd_old {w : World} {lo hi : Nat} {x : DPackage} (h : x.rd w lo hi) : x.rd w 0 w.heap.size := by
  obtain ⟨h3, h4, h5, h6⟩ := h
  exact ⟨⟨h3.1, h3.2.old (by decide)⟩, ⟨h4.1, h4.2.old (by decide)⟩, ⟨h5.1, h5.2.old (by decide)⟩, ⟨h6.1, h6.2.old (by decide)⟩⟩
theorem DPackage.rd_lens {w : World} {lo hi : Nat} {x : DPackage} (h : x.rd w lo hi) : x.l3.length = x.n3 ∧ x.l4.length = x.n4 ∧ x.l5.length = x.n5 ∧ x.l6.length = x.n6 := by
  obtain ⟨h3, h4, h5, h6⟩ := h
  exact ⟨(rd_len TGrant.len h3.2 (by decide)), (rd_len TFlow.len h4.2 (by decide)), (rd_len TRule.len h5.2 (by decide)), (rd_len TOp.len h6.2 (by decide))⟩
theorem DPackage.rd_sz {w : World} {lo hi : Nat} {x : DPackage} (h : x.rd w lo hi) : x.dat.sz = x.n3 + x.n4 + x.n5 + x.n6 := by
  obtain ⟨h3, h4, h5, h6⟩ := DPackage.rd_lens h
  simp only [MPackage.sz, DPackage.dat]
  omega
/-- Its slices are the maker's own, each in blocks of its own from lo on and below hi. -/
def DPackage.fr (w : World) (lo hi : Nat) (x : DPackage) : Prop := ∃ (lo3 hi3 lo4 hi4 lo5 hi5 lo6 hi6 : Nat), (x.n3 ≤ 9223372036854775807 ∧ Fr w lo3 hi3 108 7 x.A3 x.n3 x.c3 (cGrant x.l3)) ∧ (x.n4 ≤ 9223372036854775807 ∧ Fr w lo4 hi4 180 3 x.A4 x.n4 x.c4 (cFlow x.l4)) ∧ (x.n5 ≤ 9223372036854775807 ∧ Fr w lo5 hi5 119 8 x.A5 x.n5 x.c5 (cRule x.l5)) ∧ (x.n6 ≤ 9223372036854775807 ∧ Fr w lo6 hi6 182 4 x.A6 x.n6 x.c6 (cOp x.l6)) ∧ SepPackage lo hi lo3 hi3 lo4 hi4 lo5 hi5 lo6 hi6
theorem DPackage.fr_keep {w w' : World} {lo hi : Nat} {x : DPackage} (h : x.fr w lo hi) (hk : ∀ b, lo ≤ b → b < hi → b < w.heap.size → w'.heap[b]? = w.heap[b]?) : x.fr w' lo hi := by
  obtain ⟨lo3, hi3, lo4, hi4, lo5, hi5, lo6, hi6, h3, h4, h5, h6, hs⟩ := h
  have hd := SepPackage_bd hs
  exact ⟨lo3, hi3, lo4, hi4, lo5, hi5, lo6, hi6, ⟨h3.1, h3.2.keep fun b h1 h2 h3 => hk b (by omega) (by omega) h3⟩, ⟨h4.1, h4.2.keep fun b h1 h2 h3 => hk b (by omega) (by omega) h3⟩, ⟨h5.1, h5.2.keep fun b h1 h2 h3 => hk b (by omega) (by omega) h3⟩, ⟨h6.1, h6.2.keep fun b h1 h2 h3 => hk b (by omega) (by omega) h3⟩, hs⟩
theorem DPackage.fr_mono {w : World} {lo hi lo' hi' : Nat} {x : DPackage} (h : x.fr w lo hi) (h1 : lo' ≤ lo) (h2 : hi ≤ hi') : x.fr w lo' hi' := by
  obtain ⟨lo3, hi3, lo4, hi4, lo5, hi5, lo6, hi6, h3, h4, h5, h6, hs⟩ := h
  refine ⟨lo3, hi3, lo4, hi4, lo5, hi5, lo6, hi6, h3, h4, h5, h6, ?_⟩
  unfold SepPackage at hs ⊢
  omega
theorem DPackage.fr_rd {w : World} {lo hi : Nat} {x : DPackage} (h : x.fr w lo hi) : x.rd w lo hi := by
  obtain ⟨lo3, hi3, lo4, hi4, lo5, hi5, lo6, hi6, h3, h4, h5, h6, hs⟩ := h
  have hd := SepPackage_bd hs
  exact ⟨⟨h3.1, h3.2.rd.mono (by omega) (by omega)⟩, ⟨h4.1, h4.2.rd.mono (by omega) (by omega)⟩, ⟨h5.1, h5.2.rd.mono (by omega) (by omega)⟩, ⟨h6.1, h6.2.rd.mono (by omega) (by omega)⟩⟩
def DPackage.caps (x : DPackage) : Prop := x.n3 ≤ x.c3 ∧ x.n4 ≤ x.c4 ∧ x.n5 ≤ x.c5 ∧ x.n6 ≤ x.c6
theorem DPackage.fr_caps {w : World} {lo hi : Nat} {x : DPackage} (h : x.fr w lo hi) : x.caps := by
  obtain ⟨lo3, hi3, lo4, hi4, lo5, hi5, lo6, hi6, h3, h4, h5, h6, hs⟩ := h
  exact ⟨h3.2.cap, h4.2.cap, h5.2.cap, h6.2.cap⟩
def DPackage.frl (w : World) : Nat → Nat → List DPackage → Prop
  | lo, hi, [] => lo ≤ hi
  | lo, hi, x :: xs => ∃ m, lo ≤ m ∧ m ≤ hi ∧ x.fr w lo m ∧ DPackage.frl w m hi xs
theorem DPackage.frl_le {w : World} : ∀ {xs : List DPackage} {lo hi : Nat}, DPackage.frl w lo hi xs → lo ≤ hi
  | [], _, _, h => h
  | x :: xs, lo, hi, ⟨m, h1, h2, _, _⟩ => Nat.le_trans h1 h2
theorem DPackage.frl_keep {w w' : World} : ∀ {xs : List DPackage} {lo hi : Nat}, DPackage.frl w lo hi xs → (∀ b, lo ≤ b → b < hi → b < w.heap.size → w'.heap[b]? = w.heap[b]?) → DPackage.frl w' lo hi xs
  | [], _, _, h, _ => h
  | x :: xs, lo, hi, ⟨m, h1, h2, h3, h4⟩, hk => ⟨m, h1, h2, DPackage.fr_keep h3 fun b p q r => hk b p (by omega) r, DPackage.frl_keep h4 fun b p q r => hk b (by omega) q r⟩
theorem DPackage.frl_up {w : World} : ∀ {xs : List DPackage} {lo hi hi' : Nat}, DPackage.frl w lo hi xs → hi ≤ hi' → DPackage.frl w lo hi' xs
  | [], _, _, _, h, h' => Nat.le_trans h h'
  | x :: xs, lo, hi, hi', ⟨m, h1, h2, h3, h4⟩, h' => ⟨m, h1, Nat.le_trans h2 h', h3, DPackage.frl_up h4 h'⟩
theorem DPackage.frl_snoc {w : World} {y : DPackage} : ∀ {xs : List DPackage} {lo m m' hi : Nat}, DPackage.frl w lo m xs → y.fr w m' hi → m ≤ m' → m' ≤ hi → DPackage.frl w lo hi (xs ++ [y])
  | [], lo, m, m', hi, h, hy, h1, h2 => by
    have h : lo ≤ m := h
    exact ⟨hi, by omega, Nat.le_refl _, DPackage.fr_mono hy (by omega) (Nat.le_refl _), Nat.le_refl _⟩
  | x :: xs, lo, m, m', hi, ⟨q, h1, h2, h3, h4⟩, hy, h5, h6 => ⟨q, h1, by omega, h3, DPackage.frl_snoc h4 hy h5 h6⟩
theorem DPackage.frl_rd {w : World} : ∀ {xs : List DPackage} {lo hi : Nat}, DPackage.frl w lo hi xs → ∀ x ∈ xs, x.rd w lo hi
  | [], _, _, _, x, hx => by cases hx
  | y :: xs, lo, hi, ⟨m, h1, h2, h3, h4⟩, x, hx => by
    rcases List.mem_cons.1 hx with rfl | hx
    · exact DPackage.rd_mono (DPackage.fr_rd h3) (Nat.le_refl _) h2
    · exact DPackage.rd_mono (DPackage.frl_rd h4 x hx) h1 (Nat.le_refl _)
theorem DPackage.frl_caps {w : World} : ∀ {xs : List DPackage} {lo hi : Nat}, DPackage.frl w lo hi xs → ∀ x ∈ xs, x.caps
  | [], _, _, _, x, hx => by cases hx
  | y :: xs, lo, hi, ⟨m, h1, h2, h3, h4⟩, x, hx => by
    rcases List.mem_cons.1 hx with rfl | hx
    · exact DPackage.fr_caps h3
    · exact DPackage.frl_caps h4 x hx
theorem DPackage.frl_drop {w : World} : ∀ {xs : List DPackage} {lo hi k : Nat} {x : DPackage}, DPackage.frl w lo hi (xs.drop k) → xs[k]? = some x → ∃ m, lo ≤ m ∧ m ≤ hi ∧ x.fr w lo m ∧ DPackage.frl w m hi (xs.drop (k + 1)) := by
  intro xs lo hi k x h hx
  have hk : k < xs.length := (List.getElem?_eq_some_iff.1 hx).1
  rw [List.drop_eq_getElem_cons hk, (List.getElem?_eq_some_iff.1 hx).2] at h
  exact h
/-- A slice of them that reads so. -/
def RdPackage (w : World) (lo hi : Nat) (A : Option Addr) (n : Nat) (xs : List DPackage) : Prop := n ≤ 9223372036854775807 ∧ Rd w lo hi 8 A n (xs.flatMap DPackage.cells) ∧ ∀ x ∈ xs, x.rd w lo hi
/-- A slice of them that is the maker's own. -/
def FrPackage (w : World) (lo hi : Nat) (A : Option Addr) (n c : Nat) (xs : List DPackage) : Prop := n ≤ 9223372036854775807 ∧ ∃ m, lo ≤ m ∧ m ≤ hi ∧ Fr w lo m 104 8 A n c (xs.flatMap DPackage.cells) ∧ DPackage.frl w m hi xs
section
variable {w w' : World} {lo hi lo' hi' n c : Nat} {A : Option Addr} {xs : List DPackage}
theorem RdPackage.keep (h : RdPackage w lo hi A n xs) (hk : ∀ b, lo ≤ b → b < hi → b < w.heap.size → w'.heap[b]? = w.heap[b]?) : RdPackage w' lo hi A n xs := ⟨h.1, h.2.1.keep hk, fun x hx => DPackage.rd_keep (h.2.2 x hx) hk⟩
theorem RdPackage.new (h : RdPackage w lo hi A n xs) (hb : Below w.heap.size w w') : RdPackage w' lo hi A n xs := h.keep fun b _ _ h3 => hb.block b h3
theorem RdPackage.mono (h : RdPackage w lo hi A n xs) (h1 : lo' ≤ lo) (h2 : hi ≤ hi') : RdPackage w lo' hi' A n xs := ⟨h.1, h.2.1.mono h1 h2, fun x hx => DPackage.rd_mono (h.2.2 x hx) h1 h2⟩
theorem RdPackage.old (h : RdPackage w lo hi A n xs) : RdPackage w 0 w.heap.size A n xs := ⟨h.1, h.2.1.old (by decide), fun x hx => DPackage.rd_old (h.2.2 x hx)⟩
theorem RdPackage.len (h : RdPackage w lo hi A n xs) : xs.length = n := rd_len DPackage.len h.2.1 (by decide)
theorem RdPackage.at_ (h : RdPackage w lo hi A n xs) {k : Nat} {x : DPackage} (hx : xs[k]? = some x) : x.rd w lo hi := h.2.2 x (List.mem_of_getElem? hx)
theorem FrPackage.keep (h : FrPackage w lo hi A n c xs) (hk : ∀ b, lo ≤ b → b < hi → b < w.heap.size → w'.heap[b]? = w.heap[b]?) : FrPackage w' lo hi A n c xs := by
  obtain ⟨h0, m, h1, h2, h3, h4⟩ := h
  exact ⟨h0, m, h1, h2, h3.keep fun b p q r => hk b p (by omega) r, DPackage.frl_keep h4 fun b p q r => hk b (by omega) q r⟩
theorem FrPackage.new (h : FrPackage w lo hi A n c xs) (hb : Below w.heap.size w w') : FrPackage w' lo hi A n c xs := h.keep fun b _ _ h3 => hb.block b h3
theorem FrPackage.alloc (h : FrPackage w lo hi A n c xs) (o : Obj) : FrPackage (w.alloc o) lo hi A n c xs := h.keep fun b _ _ h3 => Below.heap_alloc w o b h3
theorem FrPackage.put (h : FrPackage w lo hi A n c xs) {p : Addr} (hp : p.block < lo ∨ hi ≤ p.block) (u : Value) : FrPackage (w.setCell p u) lo hi A n c xs :=
  h.keep fun b h1 h2 _ => Below.heap_setCell w p u b (by rintro rfl; omega)
theorem FrPackage.chg (h : FrPackage w lo hi A n c xs) (hc : Chg lo' hi' w w') (hd : hi ≤ lo' ∨ hi' ≤ lo ∨ hi' ≤ lo') : FrPackage w' lo hi A n c xs := h.keep fun b h1 h2 h3 => hc.block b h3 (by omega)
theorem FrPackage.mono (h : FrPackage w lo hi A n c xs) (h1 : lo' ≤ lo) (h2 : hi ≤ hi') : FrPackage w lo' hi' A n c xs := by
  obtain ⟨h0, m, p1, p2, h3, h4⟩ := h
  exact ⟨h0, m, by omega, by omega, h3.mono h1 (Nat.le_refl _), DPackage.frl_up h4 h2⟩
theorem FrPackage.rd (h : FrPackage w lo hi A n c xs) : RdPackage w lo hi A n xs := by
  obtain ⟨h0, m, h1, h2, h3, h4⟩ := h
  exact ⟨h0, h3.rd.mono (Nat.le_refl _) h2, fun x hx => DPackage.rd_mono (DPackage.frl_rd h4 x hx) h1 (Nat.le_refl _)⟩
end
/-- A call that answers a new slice of these. -/
def MakesPackages (xs : List DPackage) (n : Nat) (w : World) (e : Ending) (w' : World) : Prop :=
  ∃ (A : Option Addr) (c : Nat) (ys : List DPackage), e = .returned (.slice A n c) ∧ ys.map DPackage.dat = xs.map DPackage.dat ∧ FrPackage w' w.heap.size w'.heap.size A n c ys ∧ Below w.heap.size w w'

theorem DPackage.cnts_sz {w : World} {lo hi : Nat} : ∀ {xs : List DPackage}, (∀ x ∈ xs, x.rd w lo hi) → DPackage.cnts xs ≤ 8 * (xs.length + MPackage.szs (xs.map DPackage.dat))
  | [], _ => by simp [DPackage.cnts]
  | x :: xs, h => by
    have ih := DPackage.cnts_sz (xs := xs) (fun y hy => h y (List.mem_cons_of_mem _ hy))
    have hx := DPackage.rd_sz (h x (List.mem_cons_self ..))
    have hc : x.cnt ≤ 8 * (1 + x.dat.sz) := by rw [hx]; simp only [DPackage.cnt]; omega
    simp only [DPackage.cnts, MPackage.szs, List.map_cons, List.sum_cons, List.length_cons] at ih ⊢
    omega

section
variable {H : Type} {enc : TypeId × Value → H}
theorem read_package {W : World} {fuel : Nat} {cs : List Value} {y : DataW H × List MemPlace} (hq : DataW.trod enc Tryz.prog W 0 (fun _ => true) true fuel 93 cs = some y) (hlt : ∀ x ∈ y.2, x.block < W.heap.size) :
    ∃ x : DPackage, cs = x.cells ∧ x.rd W 0 W.heap.size ∧ x.dat.ok := by
  obtain ⟨ys, n, _, hx, hlen, hyl, hf⟩ := DataW.trod_struct Tryz.underlying93 hq
  have hx2 := congrArg Prod.snd hx
  simp only at hx2
  rw [hx2] at hlt
  have hlen : cs.length = 8 := hlen.trans (by kernel_rfl)
  have hyl : ys.length = 8 := hyl
  have hlt' : ∀ (i : Nat) (y : DataW H × List MemPlace), ys[i]? = some y → ∀ x ∈ y.2, x.block < W.heap.size := fun i y hy x hx => hlt x (List.mem_flatMap.2 ⟨y, List.mem_of_getElem? hy, hx⟩)
  match cs, hlen with
  | [z0, z1, z2, z3, z4, z5, z6, z7], _ =>
    have h0 := hf 0 _ rfl
    have h0' : DataW.trod enc Tryz.prog W 0 (fun _ => true) true n 3 [z0] = some (ys[0]'(by omega)) := by
      refine Eq.trans ?_ (h0.trans (List.getElem?_eq_getElem (by omega)))
      rfl
    obtain ⟨x0, e0, _, w0⟩ := DataW.trod_int Tryz.underlying3 h0'
    have h1 := hf 1 _ rfl
    have h1' : DataW.trod enc Tryz.prog W 0 (fun _ => true) true n 3 [z1] = some (ys[1]'(by omega)) := by
      refine Eq.trans ?_ (h1.trans (List.getElem?_eq_getElem (by omega)))
      rfl
    obtain ⟨x1, e1, _, w1⟩ := DataW.trod_int Tryz.underlying3 h1'
    have h2 := hf 2 _ rfl
    have h2' : DataW.trod enc Tryz.prog W 0 (fun _ => true) true n 3 [z2] = some (ys[2]'(by omega)) := by
      refine Eq.trans ?_ (h2.trans (List.getElem?_eq_getElem (by omega)))
      rfl
    obtain ⟨x2, e2, _, w2⟩ := DataW.trod_int Tryz.underlying3 h2'
    have h3 := hf 3 _ rfl
    have h3' : DataW.trod enc Tryz.prog W 0 (fun _ => true) true n 24 [z3] = some (ys[3]'(by omega)) := by
      refine Eq.trans ?_ (h3.trans (List.getElem?_eq_getElem (by omega)))
      rfl
    obtain ⟨A3, n3, c3, l3, e3, m3, r3, k3⟩ := rows_trod (c := TGrant.cells) (fit := TGrant.fit) (d := (ys[3]'(by omega)).1) (p := (ys[3]'(by omega)).2) Tryz.underlying24 (by kernel_rfl) TGrant.len (by decide) (fun h => read_grant h) h3' (hlt' 3 _ (List.getElem?_eq_getElem (by omega)))
    have h4 := hf 4 _ rfl
    have h4' : DataW.trod enc Tryz.prog W 0 (fun _ => true) true n 90 [z4] = some (ys[4]'(by omega)) := by
      refine Eq.trans ?_ (h4.trans (List.getElem?_eq_getElem (by omega)))
      rfl
    obtain ⟨A4, n4, c4, l4, e4, m4, r4, k4⟩ := rows_trod (c := TFlow.cells) (fit := TFlow.fit) (d := (ys[4]'(by omega)).1) (p := (ys[4]'(by omega)).2) Tryz.underlying90 (by kernel_rfl) TFlow.len (by decide) (fun h => read_flow h) h4' (hlt' 4 _ (List.getElem?_eq_getElem (by omega)))
    have h5 := hf 5 _ rfl
    have h5' : DataW.trod enc Tryz.prog W 0 (fun _ => true) true n 26 [z5] = some (ys[5]'(by omega)) := by
      refine Eq.trans ?_ (h5.trans (List.getElem?_eq_getElem (by omega)))
      rfl
    obtain ⟨A5, n5, c5, l5, e5, m5, r5, k5⟩ := rows_trod (c := TRule.cells) (fit := TRule.fit) (d := (ys[5]'(by omega)).1) (p := (ys[5]'(by omega)).2) Tryz.underlying26 (by kernel_rfl) TRule.len (by decide) (fun h => read_rule h) h5' (hlt' 5 _ (List.getElem?_eq_getElem (by omega)))
    have h6 := hf 6 _ rfl
    have h6' : DataW.trod enc Tryz.prog W 0 (fun _ => true) true n 91 [z6] = some (ys[6]'(by omega)) := by
      refine Eq.trans ?_ (h6.trans (List.getElem?_eq_getElem (by omega)))
      rfl
    obtain ⟨A6, n6, c6, l6, e6, m6, r6, k6⟩ := rows_trod (c := TOp.cells) (fit := TOp.fit) (d := (ys[6]'(by omega)).1) (p := (ys[6]'(by omega)).2) Tryz.underlying91 (by kernel_rfl) TOp.len (by decide) (fun h => read_op h) h6' (hlt' 6 _ (List.getElem?_eq_getElem (by omega)))
    have h7 := hf 7 _ rfl
    have h7' : DataW.trod enc Tryz.prog W 0 (fun _ => true) true n 3 [z7] = some (ys[7]'(by omega)) := by
      refine Eq.trans ?_ (h7.trans (List.getElem?_eq_getElem (by omega)))
      rfl
    obtain ⟨x7, e7, _, w7⟩ := DataW.trod_int Tryz.underlying3 h7'
    refine ⟨⟨x0, x1, x2, A3, n3, c3, l3, A4, n4, c4, l4, A5, n5, c5, l5, A6, n6, c6, l6, x7⟩, ?_, ⟨⟨Nat.le_trans m3 (by decide), r3⟩, ⟨Nat.le_trans m4 (by decide), r4⟩, ⟨Nat.le_trans m5 (by decide), r5⟩, ⟨Nat.le_trans m6 (by decide), r6⟩⟩, ⟨w0, w1, w2, k3, k4, k5, k6, w7⟩⟩
    simp only [List.cons.injEq, and_true] at e0 e1 e2 e3 e4 e5 e6 e7
    simp_all [DPackage.cells]
theorem trod_packages {W : World} {fuel : Nat} {cs : List Value} {d : DataW H} {p : List MemPlace} (hf : DataW.trod enc Tryz.prog W 0 (fun _ => true) true fuel 23 cs = some (d, p)) (hlt : ∀ x ∈ p, x.block < W.heap.size) :
    ∃ (A : Option Addr) (n cap : Nat) (l : List DPackage), cs = [.slice A n cap] ∧ RdPackage W 0 W.heap.size A n l ∧ Hid (∀ x ∈ l, x.dat.ok) := by
  obtain ⟨A, n, cap, l, h1, h2, h3, h4⟩ := rows_trod_at (c := DPackage.cells) (fit := fun x => x.rd W 0 W.heap.size ∧ x.dat.ok) Tryz.underlying23 (by kernel_rfl) DPackage.len (by decide) (fun h hl => read_package h hl) hf hlt
  exact ⟨A, n, cap, l, h1, ⟨Nat.le_trans h2 (by decide), h3, fun x hx => (h4.out x hx).1⟩, Lib.hid fun x hx => (h4.out x hx).2⟩
end

end Go.Proofs.YtjgcgipglmhgeaaGreat
