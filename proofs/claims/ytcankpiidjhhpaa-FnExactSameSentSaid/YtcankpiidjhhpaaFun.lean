/- What is asked of a function value that is called on the elements of a list. -/
import Derived.Test.YtcankpiidjhhpaaRws
import Derived.Deep.LoopGhost
namespace Go.Proofs.Ytcankpiidjhhpaa
open Go Go.ChangeShapes Go.WideShapes Go.ChangeAt Go.RowKit Go.Lib
set_option linter.unusedVariables false
set_option maxRecDepth 100000
/-- A call of g enters g. -/
def Enters (P : Program) (g : Nat) : Prop := ∀ args w, (callFunc g args).run P w = .ok (.enter g args) w
theorem Enters.out {P : Program} {g : Nat} (h : Enters P g) : ∀ args w, (callFunc g args).run P w = .ok (.enter g args) w := h
/-- Called on an element of the list, in whatever world in which all that lay in w lies as it did, it answers p and leaves what was there. -/
def PredB {α : Type} (P : Program) (g : Nat) (lb : Array Value) (enc : α → Value) (p : α → Bool) (l : List α) (w : World) : Prop :=
 ∀ (W : World) (x : α), x ∈ l → Below w.heap.size w W → Calls P g (#[enc x] ++ lb) W (Says (.bool (p x)) W)
theorem own_newer {w w' : World} {base size n : Nat} {e : TypeId} {v : Value} {xs : List Value} (h : w.ownsRow base e size v n xs) (hb : Below w.heap.size w w') : w'.ownsRow base e size v n xs := by
 refine ⟨h.1, ?_⟩
 rcases h.2 with h0 | ⟨g, cap, cur, hv, hg, hh, rest⟩
 ·
  exact .inl h0
 ·
  exact .inr ⟨g, cap, cur, hv, hg, (hb.block g (Array.getElem?_eq_some_iff.1 hh).1).trans hh, rest⟩
theorem own_base {w : World} {base base' size n : Nat} {e : TypeId} {v : Value} {xs : List Value} (h : w.ownsRow base e size v n xs) (hb : base' ≤ base) : w.ownsRow base' e size v n xs := by
 refine ⟨h.1, ?_⟩
 rcases h.2 with h0 | ⟨g, cap, cur, hv, hg, rest⟩
 ·
  exact .inl h0
 ·
  exact .inr ⟨g, cap, cur, hv, Nat.le_trans hb hg, rest⟩
theorem filter_sn {α : Type} (p : α → Bool) {l : List α} {k : Nat} {x : α} (h : l[k]? = some x) : (l.take (k + 1)).filter p = if p x = true then (l.take k).filter p ++ [x] else (l.take k).filter p := by
 rw [List.take_add_one, h, Option.toList_some, List.filter_append]
 by_cases e : p x = true
 ·
  rw [if_pos e, List.filter_cons, if_pos e]; rfl
 ·
  rw [if_neg e, List.filter_cons, if_neg e]; simp
/-- A call that answers a new slice of these cells and a value beside it. -/
def MakesV (E : TypeId) (size n : Nat) (xs : List Value) (u : Value) (w : World) (e : Ending) (w' : World) : Prop :=
 ∃ A c, e = .returned (.tuple #[.slice A n c, u]) ∧ Fr w' w.heap.size w'.heap.size E size A n c xs ∧ Below w.heap.size w w'
theorem mem_of_get {α : Type} {l : List α} {k : Nat} {x : α} (h : l[k]? = some x) : x ∈ l := List.mem_of_getElem? h
/-- The first place at which p holds, or -1. -/
def idxP {α : Type} (p : α → Bool) (l : List α) : Int := match l.findIdx? p with | some i => i | none => -1
theorem any_step {α : Type} {p : α → Bool} {l : List α} {k : Nat} {x : α} (h : (l.take k).any p = false) (hz : l[k]? = some x) (hq : p x = false) : (l.take (k + 1)).any p = false := by
 rw [List.take_add_one, hz, List.any_append, h]; simp [hq]
theorem idxP_miss {α : Type} {p : α → Bool} {l : List α} (h : l.any p = false) : idxP p l = -1 := by
 unfold idxP
 rw [List.findIdx?_eq_none_iff.2 (fun x hx => by
  have := List.any_eq_false.1 h x hx
  simpa using this)]
theorem idxP_hit {α : Type} {p : α → Bool} {l : List α} {k : Nat} {x : α} (h : (l.take k).any p = false) (hz : l[k]? = some x) (hq : p x = true) : idxP p l = k := by
 unfold idxP
 have hk : k < l.length := (List.getElem?_eq_some_iff.1 hz).1
 rw [List.findIdx?_eq_some_iff_getElem.2 ⟨hk, by
  have := (List.getElem?_eq_some_iff.1 hz).2
  rw [this]; exact hq, fun j hj => by
  have hm : l[j] ∈ l.take k := by
   rw [List.mem_take_iff_getElem]
   exact ⟨j, by omega, rfl⟩
  have := List.any_eq_false.1 h _ hm
  simpa using this⟩]
theorem idxP_nonneg {α : Type} {p : α → Bool} {l : List α} (h : l.any p = true) : 0 ≤ idxP p l := by
 unfold idxP
 cases hf : l.findIdx? p with
 | some i => simp
 | none =>
  rw [List.findIdx?_eq_none_iff] at hf
  obtain ⟨x, hx, hp⟩ := List.any_eq_true.1 h
  have := hf x hx
  rw [hp] at this; cases this
section
variable {P : Program} {w : World}
/-- wp_app_lit, and which block may have turned. -/
theorem wp_app_litg {ops : Array Oper} {rest : List Oper} {o : Oper} {a : Act} {Q : Exit → Act → World → Prop} (hgd : o.guard = none) (s x : Operand) (t : TypeId)
  (ho : o.op = .call { callee := .builtin .append, args := #[s, x], argTypes := #[t, t] })
  (base : Nat) (e : TypeId) (z : Value) (size bytes : Nat) (ht : P.underlying t = some (.slice e)) (hinfo : (P.info? e).map (fun i => (i.zero, i.size, i.bytes)) = some (some z, size, bytes))
  (hzs : z.cells.size = size) (hsz : 0 < size) (v : Value) (n : Nat) (xs : List Value) (hs : a.eval s = v) (hown : w.ownsRow base e size v n xs)
  (us : Array Value) (m c g : Nat) (hx : a.eval x = .slice (some ⟨g, 0, none⟩) m c) (hg : g = w.heap.size) (hus : us.size = m * size) (h1 : ∀ u ∈ us.toList, u.oneCell' = true)
  (h63 : n + m ≤ maxLen) (hbytes : (n + m) * bytes ≤ 140737488355328) (hbase : base ≤ w.heap.size)
  (h : ∀ v' w', w'.ownsRow base e size v' (n + m) (xs ++ us.toList) → Below base w w' → (w.alloc (.cells us e)).grownBy w' v.ownBlock → wpList P ops Q rest (a.put o.dst v') w') : wpList P ops Q (o :: rest) a (w.alloc (.cells us e)) := by
 subst hg
 exact wp_app hgd s x t ho base e z size bytes ht hinfo hzs hsz v n xs hs (hown.alloc _) _ _ _ m c us.toList hx (rd_lit w us e m size hus) h1 h63 hbytes (by simp; omega)
  fun v' w' h2 h3 h4 _ => h v' w' h2 (((Below.refl _ _).alloc hbase _).trans h3) h4
end
end Go.Proofs.Ytcankpiidjhhpaa
