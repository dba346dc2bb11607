/- Texts of lists, joined. -/
import Derived.Test.YtpefeihpoafkdaaDoorTxt
import Derived.Deep.RegionHeld3
import Derived.Deep.LoopGhost
import Derived.Lib.Join
namespace Go.Proofs.YtpefeihpoafkdaaDoor
open Go Go.ChangeShapes Go.WideShapes Go.ChangeAt Go.RowKit Go.Lib
set_option linter.unusedVariables false
set_option linter.unusedSimpArgs false
set_option maxRecDepth 100000
def vTx (t : List UInt8) : Value := .string ⟨t.toArray⟩
theorem cat_bigs (x y : List UInt8) (hx : x.length ≤ 1000000000) (hy : y.length ≤ 1000000000) (W : World) : (Op.stringOp .add ⟨x.toArray⟩ ⟨y.toArray⟩).run Tryd.prog W = .ok (.string ⟨(x ++ y).toArray⟩) W := by
  rw [run_string_add_sum W _ _ (by simp [ByteArray.size]; omega), ByteArray.mk_append_mk]
theorem jn_two (x y : List UInt8) (r : List (List UInt8)) (sep : List UInt8) : Lib.join (x :: y :: r) sep = x ++ sep ++ Lib.join (y :: r) sep := by
  simp [Lib.join_cons, Lib.joinTail]
theorem jn_snoc {xs : List (List UInt8)} {y sep : List UInt8} (h : xs ≠ []) : Lib.join (xs ++ [y]) sep = Lib.join xs sep ++ sep ++ y := by
  cases xs with
  | nil => exact absurd rfl h
  | cons x r => simp [Lib.join_cons, Lib.joinTail]
theorem jn_take1 {ts : List (List UInt8)} {sep t : List UInt8} (h : ts[0]? = some t) : Lib.join (ts.take (0 + 1)) sep = t := by
  rw [List.take_add_one, h, List.take_zero]
  exact Lib.join_one _ _
theorem jn_takes {ts : List (List UInt8)} {sep t : List UInt8} {k : Nat} (h : ts[k]? = some t) (hk : 0 < k) : Lib.join (ts.take (k + 1)) sep = Lib.join (ts.take k) sep ++ sep ++ t := by
  rw [List.take_add_one, h, Option.toList_some]
  refine jn_snoc ?_
  intro e
  have hl := (List.getElem?_eq_some_iff.1 h).1
  have := congrArg List.length e
  rw [List.length_take, List.length_nil] at this
  omega
theorem jn_ne {t : List UInt8} {r : List (List UInt8)} {sep : List UInt8} (h : t ≠ []) : Lib.join (t :: r) sep ≠ [] := by
  rw [Lib.join_cons]
  intro e
  exact h (List.append_eq_nil_iff.1 e).1
theorem jn_len {sep : List UInt8} (hs : sep.length ≤ 1) (m : Nat) : ∀ ts : List (List UInt8), (∀ t ∈ ts, t.length ≤ m) → (Lib.join ts sep).length ≤ (m + 1) * ts.length
  | [], _ => by simp [Lib.join_nil]
  | [x], h => by rw [Lib.join_one]; have := h x (by simp); simp; omega
  | x :: y :: r, h => by
    have h1 := h x (by simp)
    have h2 := jn_len hs m (y :: r) (fun t ht => h t (List.mem_cons_of_mem _ ht))
    rw [jn_two, List.length_append, List.length_append]
    simp only [List.length_cons] at h2 ⊢
    rw [Nat.mul_add (m + 1) (r.length + 1) 1]
    omega
theorem jn_len_take {sep : List UInt8} (hs : sep.length ≤ 1) (m k : Nat) (ts : List (List UInt8)) (h : ∀ t ∈ ts, t.length ≤ m) : (Lib.join (ts.take k) sep).length ≤ (m + 1) * ts.length := by
  have h1 := jn_len hs m (ts.take k) (fun t ht => h t (List.mem_of_mem_take ht))
  have h2 : (m + 1) * (ts.take k).length ≤ (m + 1) * ts.length := Nat.mul_le_mul_left _ (by rw [List.length_take]; omega)
  omega
theorem fl_len (m : Nat) : ∀ ts : List (List UInt8), (∀ t ∈ ts, t.length ≤ m) → ts.flatten.length ≤ m * ts.length
  | [], _ => by simp
  | x :: r, h => by
    have h1 := h x (by simp)
    have h2 := fl_len m r (fun t ht => h t (List.mem_cons_of_mem _ ht))
    simp only [List.flatten_cons, List.length_append, List.length_cons]
    rw [Nat.mul_add m r.length 1]
    omega
theorem in_map {α : Type} {l : List α} {f : α → List UInt8} {m : Nat} (h : ∀ x ∈ l, (f x).length ≤ m) : ∀ t ∈ l.map f, t.length ≤ m := by
  intro t ht
  obtain ⟨x, hx, rfl⟩ := List.mem_map.1 ht
  exact h x hx
def lTx (ts : List (List UInt8)) : List UInt8 := if ts.length = 0 then [45] else Lib.join ts [32]
theorem join_tx (ts : List (List UInt8)) (A : Option Addr) (n c lo hi : Nat) (sep : List UInt8) (w : World) (h0 : 0 < n) (hn : n ≤ 1048576) (hc : n ≤ c) (hl : (Lib.join ts sep).length ≤ 1000000000) (hr : Rd w lo hi 1 A n (ts.map vTx)) :
    Calls Tryd.prog 18 #[.slice A n c, .string ⟨sep.toArray⟩] w (Says (.string ⟨(Lib.join ts sep).toArray⟩) w) := by
  obtain ⟨b, off, rfl, _, _, hcell⟩ := hr.2 h0
  have hlen : ts.length = n := by have := hr.1; simpa using this
  have hm : (ts.map fun z => (⟨z.toArray⟩ : ByteArray)).map (·.data.toList) = ts := by simp [Function.comp_def]
  have hblk : b < w.heap.size := by
    have : (ts.map vTx)[0]? = some ((ts.map vTx)[0]'(by simp; omega)) := List.getElem?_eq_getElem _
    exact World.block_lt_of_cell? _ _ (hcell 0 _ this)
  have h := Tryd.strings_Join b off c (ts.map fun z => ⟨z.toArray⟩) ⟨sep.toArray⟩ w (fun j x hx => by
      refine hcell j _ ?_
      obtain ⟨z, hz, rfl⟩ := (List.getElem?_map ..).symm.trans hx |> Option.map_eq_some_iff.1
      rw [List.getElem?_map, hz]; rfl) hblk (by simp; omega) (by simpa [hlen] using hc) (by rw [hm]; show (Lib.join ts sep).length ≤ _; omega)
  rw [hm, List.length_map, hlen] at h
  exact h

end Go.Proofs.YtpefeihpoafkdaaDoor
