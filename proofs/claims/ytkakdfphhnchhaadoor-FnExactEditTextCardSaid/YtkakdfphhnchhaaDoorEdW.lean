/- The words of the changes. -/
import Derived.Test.YtkakdfphhnchhaaDoorWrJ
import Derived.Test.YtkakdfphhnchhaaDoorSlI
import Derived.Test.YtkakdfphhnchhaaDoorApp
import Derived.Test.YtkakdfphhnchhaaDoorFun
import Derived.Deep.LoopGhost
import Derived.Lib.Join
namespace Go.Proofs.YtkakdfphhnchhaaDoor
open Go Go.ChangeShapes Go.WideShapes Go.ChangeAt Go.RowKit Go.Lib
set_option linter.unusedVariables false
set_option linter.unusedSimpArgs false
set_option maxRecDepth 100000
theorem join_ts (ts : List (List UInt8)) (A : Option Addr) (n c lo hi : Nat) (sep : List UInt8) (w : World) (h0 : 0 < n) (hn : n ≤ 1048576) (hc : n ≤ c) (hl : (Lib.join ts sep).length ≤ 1000000000) (hr : Rd w lo hi 1 A n (ts.map vStr)) :
    Calls Tryd.prog 48 #[.slice A n c, .string ⟨sep.toArray⟩] w (Says (.string ⟨(Lib.join ts sep).toArray⟩) w) := by
  obtain ⟨b, off, rfl, _, _, hcell⟩ := hr.2 h0
  have hlen : ts.length = n := by have := hr.1; simpa using this
  have hm : (ts.map fun z => (⟨z.toArray⟩ : ByteArray)).map (·.data.toList) = ts := by simp [Function.comp_def]
  have hblk : b < w.heap.size := by
    have : (ts.map vStr)[0]? = some ((ts.map vStr)[0]'(by simp; omega)) := List.getElem?_eq_getElem _
    exact World.block_lt_of_cell? _ _ (hcell 0 _ this)
  have h := Tryd.strings_Join b off c (ts.map fun z => ⟨z.toArray⟩) ⟨sep.toArray⟩ w (fun j x hx => by
      refine hcell j _ ?_
      obtain ⟨z, hz, rfl⟩ := (List.getElem?_map ..).symm.trans hx |> Option.map_eq_some_iff.1
      rw [List.getElem?_map, hz]; rfl) hblk (by simp; omega) (by simpa [hlen] using hc) (by rw [hm]; show (Lib.join ts sep).length ≤ _; omega)
  rw [hm, List.length_map, hlen] at h
  exact h
set_option maxHeartbeats 8000000 in
theorem impl_editWords (nm : List UInt8) (l : List Int) (A : Option Addr) (n c lo hi : Nat) (w : World) (hT : Pow10 w) (hn : n ≤ 10) (hr : Rd w lo hi 1 A n (i64s l)) (hb : Hid (∀ z ∈ l, -9223372036854775808 ≤ z ∧ z ≤ 9223372036854775807)) :
    Calls Tryd.prog 131 #[.string ⟨nm.toArray⟩, .slice A n c] w (Makes 9 1 (n + 1) (vStr nm :: strs l) w) := by
  have HR := Lib.hid hr
  have HL := Lib.hid (show l.length = n by have := hr.1; simpa [i64s] using this)
  have HT := Lib.hid hT
  have HO0 := Lib.hid (show (w.alloc (.cells #[.string ⟨nm.toArray⟩] 9)).ownsRow w.heap.size 9 1 (.slice (some ⟨w.heap.size, 0, none⟩) 1 1) (0 + 1) (vStr nm :: strs (l.take 0)) from World.ownsRow_lit w #[.string ⟨nm.toArray⟩] 1 (Nat.le_refl _) (by unfold maxLen; omega) rfl)
  clear hr hT
  go_enter Tryd.func131, Tryd.ntmps131
  go_wp2_with fail
  go_loopg [5, 12] n (fun gg v i wr => ∃ k : Nat, k ≤ n ∧ n - k ≤ gg ∧ i = .int .i64 k ∧ Hid (wr.ownsRow w.heap.size 9 1 v (k + 1) (vStr nm :: strs (l.take k))) ∧ Hid (Below w.heap.size w wr))
  case atStart => exact ⟨0, Nat.zero_le _, by omega, rfl, HO0, Lib.hid ((Below.refl _ _).alloc (Nat.le_refl _) _)⟩
  case round =>
    obtain ⟨k, hk, hg, rfl, HO, HB⟩ := hrel
    clear HO0
    by_cases hlt : k < n
    · obtain ⟨b, off, z, rfl, _, _, hz, hc⟩ := rd_int (HR.out.new HB.out) hlt
      have c0 : wr.cell? ⟨b, off + k, none⟩ = some (.int .i64 z) := hc
      have HS := Lib.hid (strs_snoc hz)
      have C0 := Lib.hid (says_impl z (hb.out z (List.mem_of_getElem? hz)) wr (pow10_below HT.out HB.out))
      clear hz hc
      generalize itoa z = X at C0 HS
      go_wp2_with fail
      refine C0.out.mono ?_
      rintro e w2 ⟨rfl, hb2⟩
      have HB2 := Lib.hid (below_trans HB.out hb2 (Nat.le_refl _))
      have HO2 := Lib.hid (own_newer HO.out hb2)
      have HS2 := Lib.hid HB2.out.size
      clear hb2
      go_wp2_with (at_builtin; refine wp_app_lit rfl _ _ _ rfl w.heap.size 9 (.string ⟨#[]⟩) 1 16 Tryd.underlying95 info_str rfl (by decide) _ _ _ rfl HO2.out #[.string ⟨X.toArray⟩] 1 1 _ rfl (by simp) rfl (one_str _) (by unfold maxLen; omega) (by omega) (by have := HS2.out; omega) ?_; intro v1 w3 ho3 hb3)
      have HO3 := Lib.hid (show w3.ownsRow w.heap.size 9 1 v1 (k + 1 + 1) (vStr nm :: strs (l.take (k + 1))) by rw [HS.out]; simpa using ho3)
      have HB3 := Lib.hid (HB2.out.trans hb3)
      clear ho3 hb3
      go_wp2_with fail
      go_roundg (n - (k + 1))
      case measure => omega
      case rel => exact ⟨k + 1, by omega, by omega, by go_num, HO3, HB3⟩
    · obtain rfl : n = k := by omega
      have HOe := HO.out
      rw [List.take_of_length_le (by rw [HL.out]; omega)] at HOe
      replace HOe := Lib.hid HOe
      clear HO
      go_wp2_with fail
      go_ret
      exact makes_of_own HOe.out HB.out

theorem words_add (k a1 a2 a3 a4 a5 : Int) (w : World) (hT : Pow10 w) (hb : Hid (∀ z ∈ ([a1, a2, a3, a4] : List Int), -9223372036854775808 ≤ z ∧ z ≤ 9223372036854775807)) :
    Calls Tryd.prog 130 #[.agg #[.int .i64 k, .int .i64 a1, .int .i64 a2, .int .i64 a3, .int .i64 a4, .int .i64 a5]] w (Makes 9 1 (4 + 1) (vStr [97, 100, 100] :: strs [a1, a2, a3, a4]) w) := by
  have HB0 : Below w.heap.size w ((w.alloc (.cells #[.int .i64 k, .int .i64 a1, .int .i64 a2, .int .i64 a3, .int .i64 a4, .int .i64 a5] 123)).alloc (.cells #[.int .i64 a1, .int .i64 a2, .int .i64 a3, .int .i64 a4] 3)) := ((Below.refl _ _).alloc (Nat.le_refl _) _).alloc (by simp) _
  have C0 := Lib.hid (impl_editWords [97, 100, 100] [a1, a2, a3, a4] (some ⟨w.heap.size + 1, 0, none⟩) 4 4 (w.heap.size + 1) (w.heap.size + 1 + 1) ((w.alloc (.cells #[.int .i64 k, .int .i64 a1, .int .i64 a2, .int .i64 a3, .int .i64 a4, .int .i64 a5] 123)).alloc (.cells #[.int .i64 a1, .int .i64 a2, .int .i64 a3, .int .i64 a4] 3)) (pow10_below hT HB0) (by decide) (by simpa using rd_lit (w.alloc (.cells #[.int .i64 k, .int .i64 a1, .int .i64 a2, .int .i64 a3, .int .i64 a4, .int .i64 a5] 123)) #[.int .i64 a1, .int .i64 a2, .int .i64 a3, .int .i64 a4] 3 4 1 rfl) hb)
  have HB0 := Lib.hid HB0
  clear hb hT
  go_enter Tryd.func130, Tryd.ntmps130
  go_wp2_with fail
  refine C0.out.mono ?_
  rintro e w1 ⟨A1, c1, rfl, hf1, hb1⟩
  have HF1 := Lib.hid (hf1.mono (lo' := w.heap.size) (by simp <;> omega) (Nat.le_refl _))
  have HB1 := Lib.hid (below_trans HB0.out hb1 (by simp <;> omega))
  clear hf1 hb1
  go_wp2_with fail
  go_ret
  exact ⟨A1, c1, rfl, HF1.out, HB1.out⟩
theorem ahead_add (d : Nat) (x : Value) (w : World) : (nilAhead (d + 1) 123 x "loop.example/g03001/impl.words").run Tryd.prog w = .ok (some false) w := by kernel_rfl
theorem method_add (d : Nat) (x : Value) (w : World) : (method (d + 1) 123 x "loop.example/g03001/impl.words").run Tryd.prog w = .ok (130, x) w := by kernel_rfl

theorem words_drop (k a1 a2 a3 a4 a5 : Int) (w : World) (hT : Pow10 w) (hb : Hid (∀ z ∈ ([a1] : List Int), -9223372036854775808 ≤ z ∧ z ≤ 9223372036854775807)) :
    Calls Tryd.prog 133 #[.agg #[.int .i64 k, .int .i64 a1, .int .i64 a2, .int .i64 a3, .int .i64 a4, .int .i64 a5]] w (Makes 9 1 (1 + 1) (vStr [100, 114, 111, 112] :: strs [a1]) w) := by
  have HB0 : Below w.heap.size w ((w.alloc (.cells #[.int .i64 k, .int .i64 a1, .int .i64 a2, .int .i64 a3, .int .i64 a4, .int .i64 a5] 124)).alloc (.cells #[.int .i64 a1] 3)) := ((Below.refl _ _).alloc (Nat.le_refl _) _).alloc (by simp) _
  have C0 := Lib.hid (impl_editWords [100, 114, 111, 112] [a1] (some ⟨w.heap.size + 1, 0, none⟩) 1 1 (w.heap.size + 1) (w.heap.size + 1 + 1) ((w.alloc (.cells #[.int .i64 k, .int .i64 a1, .int .i64 a2, .int .i64 a3, .int .i64 a4, .int .i64 a5] 124)).alloc (.cells #[.int .i64 a1] 3)) (pow10_below hT HB0) (by decide) (by simpa using rd_lit (w.alloc (.cells #[.int .i64 k, .int .i64 a1, .int .i64 a2, .int .i64 a3, .int .i64 a4, .int .i64 a5] 124)) #[.int .i64 a1] 3 1 1 rfl) hb)
  have HB0 := Lib.hid HB0
  clear hb hT
  go_enter Tryd.func133, Tryd.ntmps133
  go_wp2_with fail
  refine C0.out.mono ?_
  rintro e w1 ⟨A1, c1, rfl, hf1, hb1⟩
  have HF1 := Lib.hid (hf1.mono (lo' := w.heap.size) (by simp <;> omega) (Nat.le_refl _))
  have HB1 := Lib.hid (below_trans HB0.out hb1 (by simp <;> omega))
  clear hf1 hb1
  go_wp2_with fail
  go_ret
  exact ⟨A1, c1, rfl, HF1.out, HB1.out⟩
theorem ahead_drop (d : Nat) (x : Value) (w : World) : (nilAhead (d + 1) 124 x "loop.example/g03001/impl.words").run Tryd.prog w = .ok (some false) w := by kernel_rfl
theorem method_drop (d : Nat) (x : Value) (w : World) : (method (d + 1) 124 x "loop.example/g03001/impl.words").run Tryd.prog w = .ok (133, x) w := by kernel_rfl

theorem words_text (k a1 a2 a3 a4 a5 : Int) (w : World) (hT : Pow10 w) (hb : Hid (∀ z ∈ ([a1, a4] : List Int), -9223372036854775808 ≤ z ∧ z ≤ 9223372036854775807)) :
    Calls Tryd.prog 135 #[.agg #[.int .i64 k, .int .i64 a1, .int .i64 a2, .int .i64 a3, .int .i64 a4, .int .i64 a5]] w (Makes 9 1 (2 + 1) (vStr [116, 101, 120, 116] :: strs [a1, a4]) w) := by
  have HB0 : Below w.heap.size w ((w.alloc (.cells #[.int .i64 k, .int .i64 a1, .int .i64 a2, .int .i64 a3, .int .i64 a4, .int .i64 a5] 125)).alloc (.cells #[.int .i64 a1, .int .i64 a4] 3)) := ((Below.refl _ _).alloc (Nat.le_refl _) _).alloc (by simp) _
  have C0 := Lib.hid (impl_editWords [116, 101, 120, 116] [a1, a4] (some ⟨w.heap.size + 1, 0, none⟩) 2 2 (w.heap.size + 1) (w.heap.size + 1 + 1) ((w.alloc (.cells #[.int .i64 k, .int .i64 a1, .int .i64 a2, .int .i64 a3, .int .i64 a4, .int .i64 a5] 125)).alloc (.cells #[.int .i64 a1, .int .i64 a4] 3)) (pow10_below hT HB0) (by decide) (by simpa using rd_lit (w.alloc (.cells #[.int .i64 k, .int .i64 a1, .int .i64 a2, .int .i64 a3, .int .i64 a4, .int .i64 a5] 125)) #[.int .i64 a1, .int .i64 a4] 3 2 1 rfl) hb)
  have HB0 := Lib.hid HB0
  clear hb hT
  go_enter Tryd.func135, Tryd.ntmps135
  go_wp2_with fail
  refine C0.out.mono ?_
  rintro e w1 ⟨A1, c1, rfl, hf1, hb1⟩
  have HF1 := Lib.hid (hf1.mono (lo' := w.heap.size) (by simp <;> omega) (Nat.le_refl _))
  have HB1 := Lib.hid (below_trans HB0.out hb1 (by simp <;> omega))
  clear hf1 hb1
  go_wp2_with fail
  go_ret
  exact ⟨A1, c1, rfl, HF1.out, HB1.out⟩
theorem ahead_text (d : Nat) (x : Value) (w : World) : (nilAhead (d + 1) 125 x "loop.example/g03001/impl.words").run Tryd.prog w = .ok (some false) w := by kernel_rfl
theorem method_text (d : Nat) (x : Value) (w : World) : (method (d + 1) 125 x "loop.example/g03001/impl.words").run Tryd.prog w = .ok (135, x) w := by kernel_rfl

theorem words_move (k a1 a2 a3 a4 a5 : Int) (w : World) (hT : Pow10 w) (hb : Hid (∀ z ∈ ([a1, a2] : List Int), -9223372036854775808 ≤ z ∧ z ≤ 9223372036854775807)) :
    Calls Tryd.prog 137 #[.agg #[.int .i64 k, .int .i64 a1, .int .i64 a2, .int .i64 a3, .int .i64 a4, .int .i64 a5]] w (Makes 9 1 (2 + 1) (vStr [109, 111, 118, 101] :: strs [a1, a2]) w) := by
  have HB0 : Below w.heap.size w ((w.alloc (.cells #[.int .i64 k, .int .i64 a1, .int .i64 a2, .int .i64 a3, .int .i64 a4, .int .i64 a5] 126)).alloc (.cells #[.int .i64 a1, .int .i64 a2] 3)) := ((Below.refl _ _).alloc (Nat.le_refl _) _).alloc (by simp) _
  have C0 := Lib.hid (impl_editWords [109, 111, 118, 101] [a1, a2] (some ⟨w.heap.size + 1, 0, none⟩) 2 2 (w.heap.size + 1) (w.heap.size + 1 + 1) ((w.alloc (.cells #[.int .i64 k, .int .i64 a1, .int .i64 a2, .int .i64 a3, .int .i64 a4, .int .i64 a5] 126)).alloc (.cells #[.int .i64 a1, .int .i64 a2] 3)) (pow10_below hT HB0) (by decide) (by simpa using rd_lit (w.alloc (.cells #[.int .i64 k, .int .i64 a1, .int .i64 a2, .int .i64 a3, .int .i64 a4, .int .i64 a5] 126)) #[.int .i64 a1, .int .i64 a2] 3 2 1 rfl) hb)
  have HB0 := Lib.hid HB0
  clear hb hT
  go_enter Tryd.func137, Tryd.ntmps137
  go_wp2_with fail
  refine C0.out.mono ?_
  rintro e w1 ⟨A1, c1, rfl, hf1, hb1⟩
  have HF1 := Lib.hid (hf1.mono (lo' := w.heap.size) (by simp <;> omega) (Nat.le_refl _))
  have HB1 := Lib.hid (below_trans HB0.out hb1 (by simp <;> omega))
  clear hf1 hb1
  go_wp2_with fail
  go_ret
  exact ⟨A1, c1, rfl, HF1.out, HB1.out⟩
theorem ahead_move (d : Nat) (x : Value) (w : World) : (nilAhead (d + 1) 126 x "loop.example/g03001/impl.words").run Tryd.prog w = .ok (some false) w := by kernel_rfl
theorem method_move (d : Nat) (x : Value) (w : World) : (method (d + 1) 126 x "loop.example/g03001/impl.words").run Tryd.prog w = .ok (137, x) w := by kernel_rfl

end Go.Proofs.YtkakdfphhnchhaaDoor
