/- Fun, what is needed of it. -/
import Derived.Test.YtkedacmpmancbaaGreatDoorVRws
import Derived.Deep.LoopGhost
namespace Go.Proofs.YtkedacmpmancbaaGreatDoor
open Go Go.ChangeShapes Go.WideShapes Go.ChangeAt Go.RowKit Go.Lib
set_option linter.unusedVariables false
set_option maxRecDepth 100000
/-- A call of g enters g. -/
def Enters (P : Program) (g : Nat) : Prop := ∀ args w, (callFunc g args).run P w = .ok (.enter g args) w
theorem Enters.out {P : Program} {g : Nat} (h : Enters P g) : ∀ args w, (callFunc g args).run P w = .ok (.enter g args) w := h
/-- Called on an element of the list, in whatever world in which all that lay in w lies as it did, it answers p and leaves what was there. -/
def PredB {α : Type} (P : Program) (g : Nat) (lb : Array Value) (enc : α → Value) (p : α → Bool) (l : List α) (w : World) : Prop :=
 ∀ (W : World) (x : α), x ∈ l → Below w.heap.size w W → Calls P g (#[enc x] ++ lb) W (Says (.bool (p x)) W)
theorem own_newer {w w' : World} {base size n : Nat} {e : TypeId} {v : Value} {xs : List Value} (h : w.ownsRow base e size v n xs) (hb : Below w.heap.size w w') : w'.ownsRow base e size v n xs := by
 refine ⟨h.1, ?_⟩
 rcases h.2 with h0 | ⟨g, cap, cur, hv, hg, hh, rest⟩
 ·
  exact .inl h0
 ·
  exact .inr ⟨g, cap, cur, hv, hg, (hb.block g (Array.getElem?_eq_some_iff.1 hh).1).trans hh, rest⟩
theorem own_base {w : World} {base base' size n : Nat} {e : TypeId} {v : Value} {xs : List Value} (h : w.ownsRow base e size v n xs) (hb : base' ≤ base) : w.ownsRow base' e size v n xs := by
 refine ⟨h.1, ?_⟩
 rcases h.2 with h0 | ⟨g, cap, cur, hv, hg, rest⟩
 ·
  exact .inl h0
 ·
  exact .inr ⟨g, cap, cur, hv, Nat.le_trans hb hg, rest⟩
theorem mem_of_get {α : Type} {l : List α} {k : Nat} {x : α} (h : l[k]? = some x) : x ∈ l := List.mem_of_getElem? h
/-- The first place at which p holds, or -1. -/
def idxP {α : Type} (p : α → Bool) (l : List α) : Int := match l.findIdx? p with | some i => i | none => -1
theorem any_step {α : Type} {p : α → Bool} {l : List α} {k : Nat} {x : α} (h : (l.take k).any p = false) (hz : l[k]? = some x) (hq : p x = false) : (l.take (k + 1)).any p = false := by
 rw [List.take_add_one, hz, List.any_append, h]; simp [hq]
theorem idxP_miss {α : Type} {p : α → Bool} {l : List α} (h : l.any p = false) : idxP p l = -1 := by
 unfold idxP
 rw [List.findIdx?_eq_none_iff.2 (fun x hx => by
  have := List.any_eq_false.1 h x hx
  simpa using this)]
theorem idxP_hit {α : Type} {p : α → Bool} {l : List α} {k : Nat} {x : α} (h : (l.take k).any p = false) (hz : l[k]? = some x) (hq : p x = true) : idxP p l = k := by
 unfold idxP
 have hk : k < l.length := (List.getElem?_eq_some_iff.1 hz).1
 rw [List.findIdx?_eq_some_iff_getElem.2 ⟨hk, by
  have := (List.getElem?_eq_some_iff.1 hz).2
  rw [this]; exact hq, fun j hj => by
  have hm : l[j] ∈ l.take k := by
   rw [List.mem_take_iff_getElem]
   exact ⟨j, by omega, rfl⟩
  have := List.any_eq_false.1 h _ hm
  simpa using this⟩]
theorem idxP_nonneg {α : Type} {p : α → Bool} {l : List α} (h : l.any p = true) : 0 ≤ idxP p l := by
 unfold idxP
 cases hf : l.findIdx? p with
 | some i => simp
 | none =>
  rw [List.findIdx?_eq_none_iff] at hf
  obtain ⟨x, hx, hp⟩ := List.any_eq_true.1 h
  have := hf x hx
  rw [hp] at this; cases this
end Go.Proofs.YtkedacmpmancbaaGreatDoor
