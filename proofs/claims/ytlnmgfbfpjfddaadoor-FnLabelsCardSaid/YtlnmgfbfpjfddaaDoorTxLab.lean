/- LabelText, of the program and of the model. -/
import Derived.Test.YtlnmgfbfpjfddaaDoorTxJoin
import Derived.Test.YtlnmgfbfpjfddaaDoorOwn2
import Derived.Test.YtlnmgfbfpjfddaaDoorSlI
import Derived.Test.YtlnmgfbfpjfddaaDoorApp
import Derived.Test.YtlnmgfbfpjfddaaDoorFun
import Derived.Deep.LoopGhost
import Derived.Handy
namespace Go.Proofs.YtlnmgfbfpjfddaaDoor
open Go Go.ChangeShapes Go.WideShapes Go.ChangeAt Go.RowKit Go.Lib
set_option linter.unusedVariables false
set_option linter.unusedSimpArgs false
set_option maxRecDepth 100000
theorem own_in {x z : Int} (h : z ∈ mOwn x) : 1 ≤ z ∧ z ≤ 9 := by
  obtain ⟨k, hk, rfl⟩ := rangeI_mem (List.mem_filter.1 h).1
  omega
def tLab (x : Int) : List UInt8 := if (mOwn x).length = 0 then [45] else sJoin [43] (mOwn x)

set_option maxHeartbeats 8000000 in
theorem impl_LabelText (x : Int) (w : World) (hT : Pow10 w) : Calls Tryd.prog 24 #[.int .i64 x] w (Says (.string ⟨(tLab x).toArray⟩) w) := by
  have HT := Lib.hid hT
  have HLn := mOwn_len x
  have HZ := Lib.hid (fun z (h : z ∈ mOwn x) => own_in h)
  have HI := Lib.hid (fun z (h : z ∈ mOwn x) => itoa_in (y := z) (by have := own_in h; omega))
  have HO := Lib.hid (fun W => implOwn x W)
  unfold tLab
  clear hT
  generalize mOwn x = l at HLn HZ HI HO ⊢
  by_cases h0 : l.length = 0
  · have HE := Lib.hid (show (if l.length = 0 then [45] else sJoin [43] l) = [45] by rw [if_pos h0])
    rw [HE.out]
    rw [h0] at HO
    clear HE
    go_enter Tryd.func24, Tryd.ntmps24
    go_wp2_with fail
    refine (HO.out _).mono ?_
    rintro e w1 ⟨A, c, rfl, hf1, hb1⟩
    have HB1 := Lib.hid hb1
    clear hf1 hb1
    go_wp2_with fail
    go_ret
    exact ⟨rfl, HB1.out⟩
  · have HE := Lib.hid (show (if l.length = 0 then [45] else sJoin [43] l) = sJoin [43] l by rw [if_neg h0])
    rw [HE.out]
    clear HE
    have hT0 : ((l.length : Int) == 0) = false := by simpa using h0
    go_enter Tryd.func24, Tryd.ntmps24
    go_wp2_with fail
    refine (HO.out _).mono ?_
    rintro e w1 ⟨A, c, rfl, hf1, hb1⟩
    have HR := Lib.hid hf1.rd
    have HB1 := Lib.hid hb1
    clear hf1 hb1
    have HO1 := Lib.hid (show (w1.alloc (.cells #[] 9)).ownsRow w1.heap.size 9 1 (.slice (some ⟨w1.heap.size, 0, none⟩) 0 0) 0 (strs (l.take 0)) from World.ownsRow_lit w1 #[] 0 (Nat.le_refl _) (by unfold maxLen; omega) rfl)
    go_wp2_with fail
    go_loopg [4, 15] l.length (fun gg v i wr => ∃ k : Nat, k ≤ l.length ∧ l.length - k ≤ gg ∧ i = .int .i64 k ∧ Hid (wr.ownsRow w1.heap.size 9 1 v k (strs (l.take k))) ∧ Hid (Below w1.heap.size w1 wr))
    case atStart => exact ⟨0, Nat.zero_le _, by omega, rfl, HO1, Lib.hid ((Below.refl _ _).alloc (Nat.le_refl _) _)⟩
    case round =>
      obtain ⟨k, hk, hg, rfl, HOk, HB⟩ := hrel
      have HBw := Lib.hid (below_trans HB1.out HB.out (Nat.le_refl _))
      by_cases hlt : k < l.length
      · obtain ⟨b, off, z, rfl, _, _, hz, hc⟩ := rd_int (HR.out.new HB.out) hlt
        have c0 : wr.cell? ⟨b, off + k, none⟩ = some (.int .i64 z) := hc
        have hm := List.mem_of_getElem? hz
        have HS := Lib.hid (strs_snoc hz)
        have C0 := Lib.hid (says_impl z (by have := HZ.out z hm; omega) wr (pow10_below HT.out HBw.out))
        clear hm hz hc
        generalize itoa z = X at C0 HS
        go_wp2_with fail
        refine C0.out.mono ?_
        rintro e w2 ⟨rfl, hb2⟩
        have HB2 := Lib.hid (below_trans HB.out hb2 (Nat.le_refl _))
        have HO2 := Lib.hid (own_newer HOk.out hb2)
        have HS2 := Lib.hid HB2.out.size
        clear hb2
        go_wp2_with (at_builtin; refine wp_app_lit rfl _ _ _ rfl w1.heap.size 9 (.string ⟨#[]⟩) 1 16 Tryd.underlying92 info_str rfl (by decide) _ _ _ rfl HO2.out #[.string ⟨X.toArray⟩] 1 1 _ rfl (by simp) rfl (one_str _) (by unfold maxLen; omega) (by omega) (by have := HS2.out; omega) ?_; intro v1 w3 ho3 hb3)
        have HO3 := Lib.hid (show w3.ownsRow w1.heap.size 9 1 v1 (k + 1) (strs (l.take (k + 1))) by rw [HS.out]; simpa using ho3)
        have HB3 := Lib.hid (HB2.out.trans hb3)
        clear ho3 hb3
        go_wp2_with fail
        go_roundg (l.length - (k + 1))
        case measure => omega
        case rel => exact ⟨k + 1, by omega, by omega, by go_num, HO3, HB3⟩
      · obtain rfl : k = l.length := by omega
        obtain ⟨A2, c2, rfl, hF⟩ := fr_of_own HOk.out
        rw [List.take_length] at hF
        have CJ := Lib.hid (join_strs l A2 c2 _ _ [43] wr (by omega) (by omega) hF.cap (by decide) HI.out hF.rd)
        clear hF HOk
        go_wp2_with fail
        refine CJ.out.mono ?_
        rintro e w2 ⟨rfl, hb2⟩
        have HB2 := Lib.hid (below_trans HBw.out hb2 (Nat.le_refl _))
        clear hb2
        go_wp2_with fail
        go_ret
        exact ⟨rfl, HB2.out⟩

end Go.Proofs.YtlnmgfbfpjfddaaDoor
