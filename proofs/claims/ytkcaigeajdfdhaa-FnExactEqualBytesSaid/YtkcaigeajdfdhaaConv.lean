/- A slice of bytes, nil or not, turned into a string. -/
import Derived.Test.YtkcaigeajdfdhaaSlB
import Derived.Laws.BytesString
import Derived.Laws.BytesArg
namespace Go.Proofs.Ytkcaigeajdfdhaa
open Go Go.ChangeShapes Go.WideShapes Go.ChangeAt Go.RowKit Go.Lib
set_option linter.unusedVariables false
set_option maxRecDepth 100000
theorem conv_rd {w : World} {lo hi n : Nat} {A : Option Addr} {l : List Int} (c : Nat) (h : Rd w lo hi 1 A n (u8s l)) :
    (convert 22 9 (.slice A n c)).run Try.prog w = .ok (.string (strOfNums l)) w := by
  have hl : l.length = n := by simpa using h.1
  rcases A with _ | a
  · have hn : n = 0 := by
      rcases Nat.eq_zero_or_pos n with h0 | h0
      · exact h0
      · obtain ⟨b, off, hA, _⟩ := h.2 h0
        cases hA
    subst hn
    obtain rfl := List.eq_nil_of_length_eq_zero hl
    exact run_convert_bytes_nil w _ _ Try.underlying22 Try.underlying5 _ _ _ Try.underlying9
  · rcases Nat.eq_zero_or_pos n with h0 | h0
    · subst h0
      obtain rfl := List.eq_nil_of_length_eq_zero hl
      have hld := run_loadCells_list (P := Try.prog) w a ([] : List Value) (fun j v hj => by simp at hj)
      rw [run_convert_bytes_string w _ _ _ _ _ _ Try.underlying22 Try.underlying5 Try.underlying9, run_bytesToString w _ _ _ [] (by simpa using hld)]
      rfl
    · obtain ⟨b, off, hA, _, _, hc⟩ := h.2 h0
      injection hA with hA
      subst hA
      exact run_convert_bytes_arg w _ _ Try.underlying22 Try.underlying5 b off n c l hl (fun i hi => by
        have hi' : i < l.length := by omega
        rw [hc i _ (map_get_lt (Value.int .u8) l i hi'), List.getD_eq_getElem?_getD, List.getElem?_eq_getElem hi']; rfl) _ Try.underlying9
theorem strOfNums_eq {l l' : List Int} (h : U8s l) (h' : U8s l') : ((strOfNums l).toList == (strOfNums l').toList) = decide (l = l') := by
  rw [ByteArray.toList_eq, ByteArray.toList_eq, Bool.eq_iff_iff, beq_iff_eq, decide_eq_true_iff]
  constructor
  · intro e
    have e2 : l.map (fun n => UInt8.ofNat n.toNat) = l'.map (fun n => UInt8.ofNat n.toNat) := by
      exact e
    have hlen : l.length = l'.length := by simpa using congrArg List.length e2
    apply List.ext_getElem hlen
    intro i h1 h2
    have e3 := congrArg (fun q => q[i]?) e2
    simp only [List.getElem?_map, List.getElem?_eq_getElem h1, List.getElem?_eq_getElem h2, Option.map_some, Option.some.injEq] at e3
    have b1 := h _ (List.getElem_mem h1)
    have b2 := h' _ (List.getElem_mem h2)
    have e4 := congrArg UInt8.toNat e3
    simp only [UInt8.toNat_ofNat'] at e4
    omega
  · rintro rfl; rfl
end Go.Proofs.Ytkcaigeajdfdhaa
