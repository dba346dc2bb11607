/- append to an empty literal of the call's own: what was there stays, the answer is new. No condition of its own. -/
import Derived.Test.YtcankpiidjhhpaaRich
import Derived.Maps.AppendAt
import Derived.Deep.RegionHeld3
namespace Go.Proofs.Ytcankpiidjhhpaa
open Go Go.ChangeShapes Go.WideShapes Go.ChangeAt Go.RowKit Go.Lib
set_option linter.unusedVariables false
set_option linter.unusedSimpArgs false
set_option maxRecDepth 100000
section
variable {P : Program} {w : World}
theorem run_app0 (t ty e : TypeId) (z : Value) (size bytes : Nat) (ht : P.underlying t = some (.slice e)) (hinfo : (P.info? e).map (fun i => (i.zero, i.size, i.bytes)) = some (some z, size, bytes))
  (hzs : z.cells.size = size) (hsz : 0 < size) (g : Nat) (hg : BoxAt w g e #[])
  (lo hi : Nat) (A : Option Addr) (m c : Nat) (news : List Value) (hr : Rd w lo hi size A m news) (h1 : ∀ u ∈ news, u.oneCell' = true)
  (h63 : m ≤ maxLen) (hbytes : m * bytes ≤ 140737488355328) :
  ∃ A' c' w', (Builtin.append_ #[t, t] ty #[.slice (some ⟨g, 0, none⟩) 0 0, .slice A m c]).run P w = .ok (.slice A' m c') w' ∧ Fr w' w.heap.size w'.heap.size e size A' m c' news ∧ Below w.heap.size w w' := by
 obtain ⟨i, hi', hz, hsize, hby⟩ := info_parts hinfo
 rcases Nat.eq_zero_or_pos m with h0 | h0
 ·
  subst h0
  have hn : news = [] := List.eq_nil_of_length_eq_zero (by simpa using hr.1)
  subst hn
  rcases A with _ | ad
  ·
   exact ⟨some ⟨g, 0, none⟩, 0, w, by simp [Builtin.append_, run_underlying ht, sizeOf, typeInfo, hi', Builtin.lenOf, Builtin.firstCells, storeCells], ⟨by simp, fun h => absurd h (by omega)⟩, Below.refl _ _⟩
  ·
   have hrun := run_append_room (P := P) w t ty e i ht hi' g 0 0 #[] hg ad 0 c [] (by simp) (fun j u hu => by simp at hu) (fun u hu => by cases hu) (by omega) (by simp)
   refine ⟨_, _, _, hrun, ⟨by simp, fun h => absurd h (by omega)⟩, ⟨rfl, rfl, rfl, by simp, fun k hk => ?_⟩⟩
   by_cases e2 : k = g
   ·
    subst e2
    rw [setRow_heap w k #[] _ e _ hg, hg]
    simp
   ·
    exact setRow_other w g k _ e2
 ·
  obtain ⟨b, off, rfl, _, _, hc⟩ := hr.2 h0
  have hsmall : m ≤ 9223372036854775807 := by simp only [maxLen] at h63; omega
  have hr2 := run_append_grow (P := P) w t ty e i z ht hi' hz ⟨g, 0, none⟩ 0 0 [] (by simp) (fun j u hu => by simp at hu) ⟨b, off, none⟩ m c news (by rw [hr.1, hsize]) (fun j u hu => by rw [add_plain0]; exact hc j u hu) (by omega) (by omega) (growslice_fits (by omega) (by rw [hby]; simpa using hbytes))
  refine ⟨_, _, _, by simpa using hr2, ?_, ?_⟩
  ·
   have hge := grownCap_ge w m 0 e
   have hcm : grownCap w m 0 e ≤ maxLen := grownCap_le_maxLen w m 0 e h63
   refine ⟨hr.1, fun _ => ⟨⟨hr.1, .inr ⟨w.heap.size, _, _, rfl, Nat.le_refl _, heap_alloc_new w.drew _, hge, hcm, ?_, ?_⟩⟩, fun a ha => by injection ha with ha; subst ha; simp⟩⟩
   ·
    simp only [Array.size_append, List.size_toArray, size_zeroCells, hzs, hr.1]
    rw [← hsize, ← Nat.add_mul]
    congr 1
    omega
   ·
    simp only [Array.toList_append]
    rw [← hr.1]
    exact List.take_left
  ·
   exact ⟨rfl, rfl, rfl, by simp, fun k hk => heap_alloc_old w.drew _ hk⟩
/-- .. at a step of a region that draws its order. -/
theorem step_app0 {ops : Array Oper} {o : Oper} {a : Act} {K : Act → World → Prop} {Q : Exit → Act → World → Prop} {E : Prop} (hgd : o.guard = none) (s x : Operand) (t : TypeId)
  (ho : o.op = .call { callee := .builtin .append, args := #[s, x], argTypes := #[t, t] })
  (e : TypeId) (z : Value) (size bytes : Nat) (ht : P.underlying t = some (.slice e)) (hinfo : (P.info? e).map (fun i => (i.zero, i.size, i.bytes)) = some (some z, size, bytes))
  (hzs : z.cells.size = size) (hsz : 0 < size) (g : Nat) (hs : a.eval s = .slice (some ⟨g, 0, none⟩) 0 0) (hg : BoxAt w g e #[])
  (lo hi : Nat) (A : Option Addr) (m c : Nat) (news : List Value) (hx : a.eval x = .slice A m c) (hr : Rd w lo hi size A m news) (h1 : ∀ u ∈ news, u.oneCell' = true)
  (h63 : m ≤ maxLen) (hbytes : m * bytes ≤ 140737488355328)
  (h : ∀ A' c' w', Fr w' w.heap.size w'.heap.size e size A' m c' news → Below w.heap.size w w' → K (a.put o.dst (.slice A' m c')) w') :
  if Region.wanted o (yielded ops a.tmps) = true then Oper.wp P o a w K Q else E := by
 have hw : Region.wanted o (yielded ops a.tmps) = true := by simp [Region.wanted, hgd]
 rw [if_pos hw]
 obtain ⟨A', c', w', hrun, h2, h3⟩ := run_app0 (P := P) t o.type e z size bytes ht hinfo hzs hsz g hg lo hi A m c news hr h1 h63 hbytes
 unfold Oper.wp execOp
 simp only [ho, resolve, invoke, builtin, Sem.run_bind, Sem.run_pure, Result.andThen_ok, List.map_toArray, List.map_cons, List.map_nil, hs, hx, hrun]
 exact h A' c' w' h2 h3
end
end Go.Proofs.Ytcankpiidjhhpaa
