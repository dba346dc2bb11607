/- FormatList, of the program and of the model. -/
import Derived.Test.YtkakdfphhnchhaaDoorWrJ
import Derived.Test.YtkakdfphhnchhaaDoorSlI
import Derived.Test.YtkakdfphhnchhaaDoorRws
import Derived.Deep.LoopGhost
import Derived.Deep.OwnRows
namespace Go.Proofs.YtkakdfphhnchhaaDoor
open Go Go.ChangeShapes Go.WideShapes Go.ChangeAt Go.RowKit Go.Lib
set_option linter.unusedVariables false
set_option linter.unusedSimpArgs false
set_option maxRecDepth 100000
set_option maxHeartbeats 8000000 in
theorem impl_mappedI (l : List Int) (A : Option Addr) (n c lo hi : Nat) (w : World) (hT : Pow10 w) (hn : n ≤ 1048576) (hr : Rd w lo hi 1 A n (i64s l)) (hb : Hid (∀ z ∈ l, -9223372036854775808 ≤ z ∧ z ≤ 9223372036854775807)) :
    Calls Tryd.prog 84 #[.slice A n c, .func (.func 36) #[] #[]] w (Makes 9 1 n (strs l) w) := by
  have hmk : ∀ W, (Instr.makeSlice 95 (.int .i64 n) (.int .i64 n)).run Tryd.prog W = .ok (.slice (some ⟨W.heap.size, 0, none⟩) n n) (W.alloc (.cells (madeCells #[.string ⟨#[]⟩] n) 9)) := fun W => run_make_row' (P := Tryd.prog) 95 9 (.string ⟨#[]⟩) 16 Tryd.underlying95 info_str rfl .i64 .i64 n (by omega) (by omega) W
  have HR := Lib.hid hr
  have HL := Lib.hid (show l.length = n by have := hr.1; simpa [i64s] using this)
  have HT := Lib.hid hT
  clear hr hT
  go_enter Tryd.func84, Tryd.ntmps84
  go_wp2_with fail
  go_loopg [13] n (fun gg i wr => ∃ k : Nat, k ≤ n ∧ n - k ≤ gg ∧ i = .int .i64 k ∧ Hid (Pre wr w.heap.size 9 n (strs l) k) ∧ Hid (Below w.heap.size w wr))
  case atStart => exact ⟨0, Nat.zero_le _, by omega, rfl, Lib.hid (pre_start (by rw [size_madeCells])), Lib.hid ((Below.refl _ _).alloc (Nat.le_refl _) _)⟩
  case round =>
    obtain ⟨k, hk, hg, rfl, HP, HB⟩ := hrel
    by_cases hlt : k < n
    · obtain ⟨b, off, z, rfl, _, _, hz, hc⟩ := rd_int (HR.out.new HB.out) hlt
      have c0 : wr.cell? ⟨b, off + k, none⟩ = some (.int .i64 z) := hc
      have C0 := Lib.hid (says_impl z (hb.out z (List.mem_of_getElem? hz)) wr (pow10_below HT.out HB.out))
      have HV := Lib.hid (show (strs l)[k]? = some (.string ⟨(itoa z).toArray⟩) by unfold strs; rw [List.getElem?_map, hz]; rfl)
      clear hz hc
      generalize itoa z = X at C0 HV
      go_wp2_with (go_at_call 36; refine Calls.mono C0.out ?_; rintro e w1 ⟨rfl, hb1⟩; have HP1 := Lib.hid (HP.out.new hb1); have HB1 := Lib.hid (below_trans HB.out hb1 (Nat.le_refl _)); obtain ⟨q0, d0⟩ := HP1.out.cell (j := k) hlt; have g0 := HP1.out.frozen k; clear hb1 c0)
      go_roundg (n - (k + 1))
      case measure => omega
      case rel => exact ⟨k + 1, by omega, by omega, by go_num, Lib.hid (HP1.out.step HV.out), Lib.hid (HB1.out.setCell (by simp) _)⟩
    · obtain rfl : k = n := by omega
      go_wp2_with fail
      go_ret
      exact ⟨_, _, rfl, (HP.out.at_ (by omega) |> fun h => Pre.fr (size := 1) (by simpa using h) (by omega) (by have := HP.out.lt; exact this) (by unfold maxLen; omega) (by rw [strs_len, HL.out]; omega)), HB.out⟩
def tFL (l : List Int) : List UInt8 := if l.length = 0 then [45] else sJoin [32] l
theorem itoas_len : ∀ (l : List Int), (∀ z ∈ l, (itoa z).length ≤ 20) → (l.map itoa).flatten.length ≤ 20 * l.length
  | [], _ => by simp
  | z :: t, h => by
    have h1 := h z (by simp)
    have h2 := itoas_len t (fun u hu => h u (List.mem_cons_of_mem _ hu))
    simp only [List.map_cons, List.flatten_cons, List.length_append, List.length_cons]
    omega
set_option maxHeartbeats 8000000 in
theorem impl_FormatList (l : List Int) (A : Option Addr) (n c lo hi : Nat) (w : World) (hT : Pow10 w) (hn : n ≤ 1048576) (hr : Rd w lo hi 1 A n (i64s l)) (b0 : Hid (I64s l)) :
    Calls Tryd.prog 28 #[.slice A n c] w (Says (.string ⟨(tFL l).toArray⟩) w) := by
  have HB : Hid (∀ z ∈ l, -9223372036854775808 ≤ z ∧ z ≤ 9223372036854775807) := Lib.hid fun z hz => b0.out z hz
  have HL := Lib.hid (show l.length = n by have := hr.1; simpa [i64s] using this)
  have CM := Lib.hid (impl_mappedI l A n c lo hi w hT hn hr HB)
  have HI := Lib.hid (show (l.map itoa).flatten.length ≤ 20 * n by rw [← HL.out]; exact itoas_len l (fun z hz => itoa_in (HB.out z hz)))
  have HEq := Lib.hid (show tLst (l.map itoa) [32] = tFL l by
    unfold tLst tFL
    cases l with
    | nil => rfl
    | cons z t =>
      rw [if_neg (show ¬ (Lib.join (List.map itoa (z :: t)) [32] = []) from sJoin_ne (sep := [32]) (l := z :: t) (by simp)), if_neg (by simp)]
      rfl)
  rw [← HEq.out]
  have CL := Lib.hid (fun (W : World) (A1 : Option Addr) (c1 lo1 hi1 : Nat) (h : Rd W lo1 hi1 1 A1 n (strs l)) => impl_listText (l.map itoa) A1 n c1 lo1 hi1 [32] W hn (by have h1 := HI.out; have h2 : ([32] : List UInt8).length = 1 := rfl; rw [h2]; omega) (by decide) (by
    have : (l.map itoa).map vStr = strs l := by unfold strs; rw [List.map_map]; rfl
    rw [this]; exact h))
  generalize tLst (l.map itoa) [32] = T at CL ⊢
  clear hr HEq HI
  have CN : Hid (Calls Tryd.prog 52 #[.slice A n c, .string ⟨#[32]⟩] w (Says (.string ⟨T.toArray⟩) w)) := Lib.hid (by
    go_enter Tryd.func52, Tryd.ntmps52
    go_wp2_with fail
    refine CM.out.mono ?_
    rintro e w1 ⟨A1, c1, rfl, hf1, hb1⟩
    have CL1 := Lib.hid (CL.out w1 A1 c1 _ _ hf1.rd)
    have HB1 := Lib.hid hb1
    clear hf1 hb1
    go_wp2_with fail
    refine CL1.out.mono ?_
    rintro e w2 ⟨rfl, hb2⟩
    have HB2 := Lib.hid (below_trans HB1.out hb2 (Nat.le_refl _))
    clear hb2
    go_wp2_with fail
    go_ret
    exact ⟨rfl, HB2.out⟩)
  go_enter Tryd.func28, Tryd.ntmps28
  go_wp2_with fail
  refine CN.out.mono ?_
  rintro e w1 ⟨rfl, hb1⟩
  have HB1 := Lib.hid hb1
  clear hb1
  go_wp2_with fail
  go_ret
  exact ⟨rfl, HB1.out⟩
theorem cat_big (x y : List UInt8) (hx : x.length ≤ 1000000000) (hy : y.length ≤ 1000000000) (W : World) : (Op.stringOp .add ⟨x.toArray⟩ ⟨y.toArray⟩).run Tryd.prog W = .ok (.string ⟨(x ++ y).toArray⟩) W := by
  rw [run_string_add_sum W _ _ (by simp [ByteArray.size]; omega), ByteArray.mk_append_mk]
set_option maxHeartbeats 8000000 in
theorem spec_FormatList (l : List Int) (A : Option Addr) (n c lo hi : Nat) (w : World) (hT : Pow10 w) (hn : n ≤ 1048576) (hr : Rd w lo hi 1 A n (i64s l)) (b0 : Hid (I64s l)) :
    Calls Tryd.prog 26 #[.slice A n c] w (Says (.string ⟨(tFL l).toArray⟩) w) := by
  have HI : Hid (∀ z ∈ l, (itoa z).length ≤ 20) := Lib.hid fun z hz => itoa_in (b0.out z hz)
  have HZ : Hid (∀ z ∈ l, -9223372036854775808 ≤ z ∧ z ≤ 9223372036854775807) := Lib.hid fun z hz => b0.out z hz
  have HL := Lib.hid (show l.length = n by have := hr.1; simpa [i64s] using this)
  have HR := Lib.hid hr
  have HT := Lib.hid hT
  obtain ⟨T, HTe⟩ : ∃ T, Hid (tFL l = T) := ⟨_, Lib.hid rfl⟩
  rw [HTe.out]
  clear hr hT
  have CN : Hid (Calls Tryd.prog 51 #[.slice A n c, .string ⟨#[32]⟩] w (Says (.string ⟨T.toArray⟩) w)) := Lib.hid (by
    go_enter Tryd.func51, Tryd.ntmps51
    go_wp2_with fail
    go_loopg [5, 6] n (fun gg sv i wr => ∃ k : Nat, k ≤ n ∧ n - k ≤ gg ∧ i = .int .i64 k ∧ sv = .string ⟨(sJoin [32] (l.take k)).toArray⟩ ∧ Hid (Below w.heap.size w wr))
    case atStart => exact ⟨0, Nat.zero_le _, by omega, rfl, by rw [sJoin_zero], Lib.hid (Below.refl _ _)⟩
    case round =>
      obtain ⟨k, hk, hg, rfl, rfl, HB⟩ := hrel
      by_cases hlt : k < n
      · obtain ⟨b, off, z, rfl, _, _, hz, hc⟩ := rd_int (HR.out.new HB.out) hlt
        have c0 : wr.cell? ⟨b, off + k, none⟩ = some (.int .i64 z) := hc
        have hm := List.mem_of_getElem? hz
        have hx := HI.out z hm
        have C0 := Lib.hid (says_spec z (HZ.out z hm) wr (pow10_below HT.out HB.out))
        have HZk := Lib.hid hz
        clear hm hz hc
        rcases Nat.eq_zero_or_pos k with hk0 | hk0
        · subst hk0
          have c0' : wr.cell? ⟨b, off, none⟩ = some (.int .i64 z) := c0
          have HE := Lib.hid (sJoin_one (sep := [32]) HZk.out)
          rw [sJoin_zero]
          generalize itoa z = X at C0 hx HE
          have hc0 : ∀ W, (Op.stringOp .add ⟨#[]⟩ ⟨X.toArray⟩).run Tryd.prog W = .ok (.string ⟨(([] : List UInt8) ++ X).toArray⟩) W := fun W => cat_big [] X (by simp) (by omega) W
          go_wp2_with fail
          refine C0.out.mono ?_
          rintro e w2 ⟨rfl, hb2⟩
          have HB2 := Lib.hid (below_trans HB.out hb2 (Nat.le_refl _))
          clear hb2
          go_wp2_with fail
          go_roundg (n - 1)
          case measure => omega
          case rel => exact ⟨1, by omega, by omega, rfl, by rw [show (1 : Nat) = 0 + 1 from rfl, HE.out], HB2⟩
        · have HE := Lib.hid (sJoin_snoc (sep := [32]) HZk.out hk0)
          have hj : (sJoin [32] (l.take k)).length ≤ 30000000 := by
            have := sJoin_len (sep := [32]) (by decide) (l.take k) (fun z hz => HI.out z (List.mem_of_mem_take hz))
            rw [List.length_take] at this
            omega
          generalize itoa z = X at C0 hx HE
          generalize sJoin [32] (l.take k) = J at hj HE ⊢
          have hc0 : ∀ W, (Op.stringOp .add ⟨J.toArray⟩ ⟨#[32]⟩).run Tryd.prog W = .ok (.string ⟨(J ++ [32]).toArray⟩) W := fun W => cat_big J [32] (by omega) (by simp) W
          have hc1 : ∀ W, (Op.stringOp .add ⟨(J ++ [32]).toArray⟩ ⟨X.toArray⟩).run Tryd.prog W = .ok (.string ⟨(J ++ [32] ++ X).toArray⟩) W := fun W => cat_big (J ++ [32]) X (by simp; omega) (by omega) W
          go_wp2_with fail
          refine C0.out.mono ?_
          rintro e w2 ⟨rfl, hb2⟩
          have HB2 := Lib.hid (below_trans HB.out hb2 (Nat.le_refl _))
          clear hb2
          go_wp2_with fail
          go_roundg (n - (k + 1))
          case measure => omega
          case rel => exact ⟨k + 1, by omega, by omega, by go_num, by rw [HE.out]; simp, HB2⟩
      · obtain rfl : k = n := by omega
        rw [List.take_of_length_le (by rw [HL.out]; omega)]
        by_cases h0 : k = 0
        · have HE := Lib.hid (show T = [45] by rw [← HTe.out]; unfold tFL; rw [if_pos (by rw [HL.out]; exact h0)])
          subst h0
          go_wp2_with fail
          go_ret
          exact ⟨by rw [HE.out]; rfl, HB.out⟩
        · have HE := Lib.hid (show T = sJoin [32] l by rw [← HTe.out]; unfold tFL; rw [if_neg (by rw [HL.out]; exact h0)])
          generalize sJoin [32] l = J at HE ⊢
          have hT0 : ((k : Int) == 0) = false := by simpa using h0
          go_wp2_with fail
          go_ret
          exact ⟨by rw [HE.out]; rfl, HB.out⟩)
  go_enter Tryd.func26, Tryd.ntmps26
  go_wp2_with fail
  refine CN.out.mono ?_
  rintro e w1 ⟨rfl, hb1⟩
  have HB1 := Lib.hid hb1
  clear hb1
  go_wp2_with fail
  go_ret
  exact ⟨rfl, HB1.out⟩

end Go.Proofs.YtkakdfphhnchhaaDoor
