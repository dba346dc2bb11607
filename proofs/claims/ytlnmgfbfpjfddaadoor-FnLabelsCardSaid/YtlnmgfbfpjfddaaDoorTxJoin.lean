/- Numerals with something between them. -/
import Derived.Test.YtlnmgfbfpjfddaaDoorTxt
import Derived.Lib.Join
namespace Go.Proofs.YtlnmgfbfpjfddaaDoor
open Go Go.ChangeShapes Go.WideShapes Go.ChangeAt Go.RowKit Go.Lib
set_option linter.unusedVariables false
set_option linter.unusedSimpArgs false
set_option maxRecDepth 100000
def sJoin (sep : List UInt8) (l : List Int) : List UInt8 := Lib.join (l.map itoa) sep
theorem join_two (x y : List UInt8) (r : List (List UInt8)) (sep : List UInt8) : Lib.join (x :: y :: r) sep = x ++ sep ++ Lib.join (y :: r) sep := by
  rw [Lib.join_cons, Lib.join_cons]
  simp [Lib.joinTail, List.append_assoc]
theorem join_snoc {xs : List (List UInt8)} {y sep : List UInt8} (h : xs ≠ []) : Lib.join (xs ++ [y]) sep = Lib.join xs sep ++ sep ++ y := by
  cases xs with
  | nil => exact absurd rfl h
  | cons x r =>
    rw [List.cons_append, Lib.join_cons, Lib.join_cons]
    simp [Lib.joinTail, List.append_assoc]
theorem sJoin_zero (sep : List UInt8) (l : List Int) : sJoin sep (l.take 0) = [] := by rw [List.take_zero]; rfl
theorem sJoin_one {sep : List UInt8} {l : List Int} {z : Int} (h : l[0]? = some z) : sJoin sep (l.take (0 + 1)) = itoa z := by
  unfold sJoin
  rw [List.take_add_one, h, List.take_zero]
  exact Lib.join_one _ _
theorem sJoin_snoc {sep : List UInt8} {l : List Int} {k : Nat} {z : Int} (h : l[k]? = some z) (hk : 0 < k) : sJoin sep (l.take (k + 1)) = sJoin sep (l.take k) ++ sep ++ itoa z := by
  unfold sJoin
  rw [List.take_add_one, h, Option.toList_some, List.map_append]
  refine join_snoc ?_
  intro e
  have hl := (List.getElem?_eq_some_iff.1 h).1
  have := congrArg List.length e
  rw [List.length_map, List.length_take, List.length_nil] at this
  omega
theorem sJoin_len {sep : List UInt8} (hs : sep.length ≤ 1) : ∀ (l : List Int), (∀ z ∈ l, (itoa z).length ≤ 20) → (sJoin sep l).length ≤ 21 * l.length
  | [], _ => by simp [sJoin, Lib.join_nil]
  | [z], h => by
    have := h z (by simp)
    show (Lib.join [itoa z] sep).length ≤ _
    rw [Lib.join_one]
    simp; omega
  | z :: y :: r, h => by
    have h1 := h z (by simp)
    have h2 := sJoin_len hs (y :: r) (fun u hu => h u (List.mem_cons_of_mem _ hu))
    show (Lib.join (itoa z :: itoa y :: r.map itoa) sep).length ≤ _
    rw [join_two, List.length_append, List.length_append]
    have h3 : (Lib.join (itoa y :: r.map itoa) sep).length = (sJoin sep (y :: r)).length := rfl
    rw [h3]
    simp only [List.length_cons] at h2 ⊢
    omega
theorem dec_ne (u : Nat) : decDigits u ≠ [] := by
  rw [decDigits]
  split <;> simp
theorem itoa_ne (z : Int) : itoa z ≠ [] := by
  unfold itoa
  split
  · simp
  · exact dec_ne _
theorem sJoin_ne {sep : List UInt8} {l : List Int} (h : l ≠ []) : sJoin sep l ≠ [] := by
  cases l with
  | nil => exact absurd rfl h
  | cons z t =>
    show Lib.join (itoa z :: t.map itoa) sep ≠ []
    rw [Lib.join_cons]
    have := itoa_ne z
    intro e
    exact this (List.append_eq_nil_iff.1 e).1
theorem str_ne {J : List UInt8} (h : J ≠ []) (W : World) : True := trivial
theorem info_str : (Tryd.prog.info? 9).map (fun i => (i.zero, i.size, i.bytes)) = some (some (.string ⟨#[]⟩), 1, 16) := by kernel_rfl
theorem one_str (s : ByteArray) : ∀ u ∈ (#[Value.string s]).toList, u.oneCell' = true := by
  intro u hu
  simp only [List.mem_singleton] at hu
  subst hu
  rfl
def strs (l : List Int) : List Value := l.map fun z => .string ⟨(itoa z).toArray⟩
theorem strs_len (l : List Int) : (strs l).length = l.length := by simp [strs]
theorem strs_snoc {l : List Int} {k : Nat} {z : Int} (h : l[k]? = some z) : strs (l.take (k + 1)) = strs (l.take k) ++ [.string ⟨(itoa z).toArray⟩] := by
  unfold strs
  rw [List.take_add_one, h]; simp
/-- strings.Join at a slice of numerals. -/
theorem join_strs (l : List Int) (A : Option Addr) (c lo hi : Nat) (sep : List UInt8) (w : World) (h0 : 0 < l.length) (hn : l.length ≤ 1048576) (hc : l.length ≤ c) (hs : sep.length ≤ 1) (hb : ∀ z ∈ l, (itoa z).length ≤ 20) (hr : Rd w lo hi 1 A l.length (strs l)) :
    Calls Tryd.prog 58 #[.slice A l.length c, .string ⟨sep.toArray⟩] w (Says (.string ⟨(sJoin sep l).toArray⟩) w) := by
  obtain ⟨b, off, rfl, _, _, hcell⟩ := hr.2 h0
  have hlen := sJoin_len hs l hb
  have hm : (l.map fun z => (⟨(itoa z).toArray⟩ : ByteArray)).map (·.data.toList) = l.map itoa := by simp [Function.comp_def]
  have hblk : b < w.heap.size := by
    have : (strs l)[0]? = some ((strs l)[0]'(by rw [strs_len]; omega)) := List.getElem?_eq_getElem _
    have := hcell 0 _ this
    exact World.block_lt_of_cell? _ _ this
  have h := Tryd.strings_Join b off c (l.map fun z => ⟨(itoa z).toArray⟩) ⟨sep.toArray⟩ w (fun j x hx => by
      refine hcell j _ ?_
      obtain ⟨z, hz, rfl⟩ := (List.getElem?_map ..).symm.trans hx |> Option.map_eq_some_iff.1
      unfold strs
      rw [List.getElem?_map, hz]; rfl) hblk (by simp; omega) (by simpa using hc) (by rw [hm]; show (sJoin sep l).length ≤ _; omega)
  rw [hm, List.length_map] at h
  exact h

end Go.Proofs.YtlnmgfbfpjfddaaDoor
