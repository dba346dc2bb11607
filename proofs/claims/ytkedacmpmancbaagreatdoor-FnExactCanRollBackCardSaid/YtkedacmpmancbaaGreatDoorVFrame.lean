/- Frame, what is needed of it. -/
import Derived.Test.YtkedacmpmancbaaGreatDoorRows
import Derived.WalkKit
import Derived.ProofKit
import Derived.OpenShut
import Derived.Lib.Hide
namespace Go.Proofs.YtkedacmpmancbaaGreatDoor
open Go Go.ChangeShapes Go.WideShapes Go.ChangeAt Go.RowKit Go.WideElems

theorem ownk : ownKnob Tryz.prog.godebug = none := by kernel_rfl
theorem seatLaid : laidOutB Tryz.prog = true := by kernel_rfl

section
variable {H : Type} {enc : TypeId × Value → H}

/-- The arguments' readings stay behind a call that only makes new memory. -/
theorem args_stay {W W' : World} (hb : Below W.heap.size W W') : ∀ (ts : List TypeId) (vs : List Value) (ds : List (DataW H)) (p : List MemPlace),
  (∀ t ∈ ts, Tryz.prog.readableRec t = true ∧ t < Tryz.prog.types.size) → DataW.TrodAll enc Tryz.prog W 0 (fun _ => true) true ts vs ds p → (∀ x ∈ p, x.block < W.heap.size) →
   ∀ sp : Nat → Bool, (∀ x ∈ p, sp x.block = true) → DataW.TrodAll enc Tryz.prog W' 0 sp true ts vs ds p
 | [], _, _, _, _, h, _, _, _ => by
  obtain ⟨rfl, rfl, rfl⟩ := trodAll_nil h
  exact trodAll_mk0
 | t :: ts, _, _, _, hr, h, hlt, sp, hsp => by
  obtain ⟨v, vs1, d, ds1, a, b, rfl, rfl, rfl, h1, h2⟩ := trodAll_cons h
  obtain ⟨hr1, hr2⟩ := hr t (List.mem_cons_self ..)
  exact trodAll_cons_mk (Trod_stays seatLaid hr1 hr2 h1 (fun x hx => hb.same (hlt x (List.mem_append_left _ hx))) (fun x hx => hsp x (List.mem_append_left _ hx)))
   (args_stay hb ts vs1 ds1 b (fun t' ht' => hr t' (List.mem_cons_of_mem _ ht')) h2 (fun x hx => hlt x (List.mem_append_right _ hx)) sp (fun x hx => hsp x (List.mem_append_right _ hx)))

end
theorem aU0 {P : Prop} (h : P := by repeat (first | with_reducible exact Below.refl _ _ | (with_reducible refine below_step ?_ (by assumption) (by first | omega | (simp <;> omega))) | (with_reducible refine Below.alloc ?_ (by first | omega | (simp <;> omega)) _) | (with_reducible refine Below.setCell ?_ (by first | omega | (simp <;> omega)) _) | (with_reducible refine Below.drew ?_) | (with_reducible refine below_dN ?_ _) | (refine Below.alloc ?_ (by first | omega | (simp <;> omega)) _))) : P := h
theorem aU1 {P : Prop} (h : P := by repeat (first | with_reducible exact Below.refl _ _ | (with_reducible exact HB.out) | (refine Below.setCell ?_ (by first | omega | (simp <;> omega)) _) | (refine Below.alloc ?_ (by first | omega | (simp <;> omega)) _))) : P := h
theorem aU2 {P : Prop} (h : P := by repeat (first | with_reducible exact Below.refl _ _ | (with_reducible exact HB.out) | (with_reducible refine Below.setCell ?_ (by first | omega | (simp; done) | (simp <;> omega)) _) | (with_reducible refine Below.alloc ?_ (by first | omega | (simp; done) | (simp <;> omega)) _) | (refine Below.alloc ?_ (by first | omega | (simp; done) | (simp <;> omega)) _) | (refine Below.setCell ?_ (by first | omega | (simp; done) | (simp <;> omega)) _))) : P := h
theorem aU3 {P : Prop} (h : P := by repeat (first | exact Below.refl _ _ | (refine Below.alloc ?_ (by first | omega | (simp <;> omega)) _))) : P := h
theorem aU4 {P : Prop} (h : P := by repeat (first | exact Below.refl _ _ | (refine Below.alloc ?_ (by first | omega | (simp <;> omega)) _) | (refine below_dN ?_ _))) : P := h
theorem aU5 {P : Prop} (h : P := by repeat (first | with_reducible exact F3.out | (with_reducible refine Fr.put ?_ (by first | omega | (simp <;> omega)) _) | (with_reducible refine Fr.alloc ?_ _))) : P := h
theorem aU6 {P : Prop} (h : P := by repeat (first | with_reducible exact Below.refl _ _ | (with_reducible exact HBf.out) | (refine Below.setCell ?_ (by first | omega | (simp <;> omega)) _) | (refine Below.alloc ?_ (by first | omega | (simp <;> omega)) _))) : P := h
theorem aU7 {P : Prop} (h : P := by repeat (first | with_reducible exact F4.out | (with_reducible refine Fr.put ?_ (by first | omega | (simp <;> omega)) _) | (with_reducible refine Fr.alloc ?_ _))) : P := h
theorem aU8 {P : Prop} (h : P := by repeat (first | with_reducible exact G3.out | (with_reducible refine Fr.put ?_ (by have h := MB.out; first | omega | (simp <;> omega)) _) | (with_reducible refine Fr.alloc ?_ _))) : P := h
theorem aU9 {P : Prop} (h : P := by repeat (first | with_reducible exact G4.out | (with_reducible refine Fr.put ?_ (by have h := MB.out; first | omega | (simp <;> omega)) _) | (with_reducible refine Fr.alloc ?_ _))) : P := h
theorem aU10 {P : Prop} (h : P := by repeat (first | with_reducible exact G5.out | (with_reducible refine Fr.put ?_ (by have h := MB.out; first | omega | (simp <;> omega)) _) | (with_reducible refine Fr.alloc ?_ _))) : P := h
theorem aU11 {P : Prop} (h : P := by repeat (first | with_reducible exact G6.out | (with_reducible refine Fr.put ?_ (by have h := MB.out; first | omega | (simp <;> omega)) _) | (with_reducible refine Fr.alloc ?_ _))) : P := h
theorem aU12 {P : Prop} (h : P := by repeat (first | with_reducible exact F5.out | (with_reducible refine Fr.put ?_ (by first | omega | (simp <;> omega)) _) | (with_reducible refine Fr.alloc ?_ _))) : P := h
theorem aU13 {P : Prop} (h : P := by repeat (first | exact Below.refl _ _ | (refine Below.alloc ?_ (by simp <;> omega) _) | (refine below_dN ?_ _))) : P := h
theorem aU14 {P : Prop} (h : P := by repeat (first | with_reducible exact F6.out | (with_reducible refine Fr.put ?_ (by first | omega | (simp <;> omega)) _) | (with_reducible refine Fr.alloc ?_ _))) : P := h
theorem aU15 {P : Prop} (h : P := by repeat (first | exact Below.refl _ _ | (refine Below.alloc ?_ (by simp <;> omega) _))) : P := h
theorem aV {P : Prop} (h : P := by first | omega | (simp; done) | (simp; omega)) : P := h
theorem aW {P : Prop} (h : P := by first | omega | (simp <;> omega)) : P := h
end Go.Proofs.YtkedacmpmancbaaGreatDoor
