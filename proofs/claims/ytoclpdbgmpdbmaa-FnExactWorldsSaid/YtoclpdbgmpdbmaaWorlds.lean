/- Worlds, of the program and of the model: whose nodes they are, ascending. -/
import Derived.Test.YtoclpdbgmpdbmaaSorted
import Derived.Test.YtoclpdbgmpdbmaaPut
import Derived.Test.YtoclpdbgmpdbmaaTNode
namespace Go.Proofs.Ytoclpdbgmpdbmaa
open Go Go.ChangeShapes Go.WideShapes Go.ChangeAt Go.RowKit Go.Lib
set_option linter.unusedVariables false
set_option linter.unusedSimpArgs false
set_option maxRecDepth 100000
def mWorlds (l : List TNode) : List Int := mAsc (l.map TNode.f4)
theorem mWorlds_len (l : List TNode) : (mWorlds l).length ≤ l.length := by have := mAsc_len (l.map TNode.f4); simpa [mWorlds] using this
theorem take_map_snoc {α β : Type} (f : α → β) {l : List α} {k : Nat} {x : α} (h : l[k]? = some x) : (l.take (k + 1)).map f = (l.take k).map f ++ [f x] := by
  rw [List.take_add_one, h]; simp
set_option maxHeartbeats 4000000 in
theorem impl_Worlds (l0 : List TNode) (A0 : Option Addr) (n0 c0 lo0 hi0 : Nat) (w : World) (h0 : n0 ≤ 1048576) (r0 : Rd w lo0 hi0 5 A0 n0 (cNode l0)) (b0 : Hid (cNodeOk l0)) :
    Calls Try.prog 15 #[.slice A0 n0 c0] w (Makes 3 1 (mWorlds l0).length (i64s (mWorlds l0)) w) := by
  have HR := Lib.hid r0
  have HL := Lib.hid (rd_len TNode.len r0 (by decide))
  clear r0
  go_enter Try.func15, Try.ntmps15
  go_wp2_with fail
  go_loopg [3, 9] n0 (fun gg v i wr => ∃ k : Nat, k ≤ n0 ∧ n0 - k ≤ gg ∧ i = .int .i64 k ∧ Hid (wr.ownsRow w.heap.size 3 1 v k (i64s ((l0.take k).map TNode.f4))) ∧ Hid (Below w.heap.size w wr))
  case atStart => exact ⟨0, Nat.zero_le _, by omega, rfl, Lib.hid (World.ownsRow_lit w #[] 0 (Nat.le_refl _) (by unfold maxLen; omega) rfl), Lib.hid ((Below.refl _ _).alloc (Nat.le_refl _) _)⟩
  case round =>
    obtain ⟨k, hk, hg, rfl, HO, HB⟩ := hrel
    have HS := Lib.hid HB.out.size
    by_cases hlt : k < n0
    · obtain ⟨b, off, x, rfl, _, _, hz, hc⟩ := rd_elem TNode.len (HR.out.new HB.out) HL.out hlt
      have c0 : wr.cell? ⟨b, off + k * 5, none⟩ = _ := hc 0 _ rfl
      have c1 := hc 1 _ rfl
      have c2 := hc 2 _ rfl
      have c3 := hc 3 _ rfl
      have c4 := hc 4 _ rfl
      have HE := Lib.hid (take_map_snoc TNode.f4 hz)
      clear hz hc
      go_wp2_with (at_builtin; refine wp_app_lit rfl _ _ _ rfl w.heap.size 3 (.int .i64 0) 1 8 Try.underlying24 info_int rfl (by decide) _ _ _ rfl (HO.out.alloc _) #[.int .i64 x.f4] 1 1 _ rfl (by simp) rfl (one_int _) (by unfold maxLen; omega) (by omega) (by have := HS.out; simp; omega) ?_; intro v1 w2 ho1 hb1)
      have HO1 := Lib.hid (show w2.ownsRow w.heap.size 3 1 v1 (k + 1) (i64s ((l0.take (k + 1)).map TNode.f4)) by
        rw [HE.out]
        simpa [i64s] using ho1)
      have HB1 := Lib.hid ((HB.out.alloc HS.out _).trans hb1)
      clear ho1 hb1
      go_wp2_with fail
      go_roundg (n0 - (k + 1))
      case rel => exact ⟨k + 1, by omega, by omega, by go_num, HO1, HB1⟩
      case measure => omega
    · obtain rfl : k = n0 := by omega
      have HT := Lib.hid (show l0.take k = l0 from List.take_of_length_le (by rw [HL.out]; omega))
      obtain ⟨Aq, cq, rfl, hF⟩ := fr_of_own HO.out
      rw [HT.out] at hF
      have CA := Lib.hid (ascending_any _ Aq k cq _ _ wr (by omega) hF)
      clear hF
      go_wp2_with fail
      refine CA.out.mono ?_
      rintro e w1 ⟨rfl, h1, h2⟩
      have HF := Lib.hid (h1.mono (Nat.le_refl _) h2.size)
      have HB1 := Lib.hid (HB.out.trans (h2.below (.inl (Nat.le_refl _)) HS.out))
      clear h1 h2
      go_wp2_with fail
      go_ret
      exact ⟨_, _, rfl, HF.out, HB1.out⟩
set_option maxHeartbeats 4000000 in
theorem spec_Worlds (l0 : List TNode) (A0 : Option Addr) (n0 c0 lo0 hi0 : Nat) (w : World) (h0 : n0 ≤ 1048576) (r0 : Rd w lo0 hi0 5 A0 n0 (cNode l0)) (b0 : Hid (cNodeOk l0)) :
    Calls Try.prog 13 #[.slice A0 n0 c0] w (Makes 3 1 (mWorlds l0).length (i64s (mWorlds l0)) w) := by
  have HR := Lib.hid r0
  have HL := Lib.hid (rd_len TNode.len r0 (by decide))
  clear r0
  go_enter Try.func13, Try.ntmps13
  go_wp2_with fail
  go_loopg [3, 4] n0 (fun gg v i wr => ∃ (k : Nat) (A : Option Addr) (m c : Nat), k ≤ n0 ∧ n0 - k ≤ gg ∧ i = .int .i64 k ∧ v = .slice A m c ∧ m ≤ k ∧ Hid (m = (mAsc ((l0.take k).map TNode.f4)).length) ∧ Hid (Fr wr w.heap.size wr.heap.size 3 1 A m c (i64s (mAsc ((l0.take k).map TNode.f4)))) ∧ Hid (Below w.heap.size w wr))
  case atStart => exact ⟨0, _, 0, 0, Nat.zero_le _, by omega, rfl, rfl, Nat.le_refl _, Lib.hid rfl, Lib.hid ⟨rfl, fun h => absurd h (by omega)⟩, Lib.hid ((Below.refl _ _).alloc (Nat.le_refl _) _)⟩
  case round =>
    obtain ⟨k, A, m, c, hk, hg, rfl, rfl, hmk, HM, HF, HB⟩ := hrel
    have HS := Lib.hid HB.out.size
    by_cases hlt : k < n0
    · obtain ⟨b, off, x, rfl, _, _, hz, hc⟩ := rd_elem TNode.len (HR.out.new HB.out) HL.out hlt
      have c0 : wr.cell? ⟨b, off + k * 5, none⟩ = _ := hc 0 _ rfl
      have c1 := hc 1 _ rfl
      have c2 := hc 2 _ rfl
      have c3 := hc 3 _ rfl
      have c4 := hc 4 _ rfl
      have HE := Lib.hid (show mAsc ((l0.take (k + 1)).map TNode.f4) = mPut x.f4 (mAsc ((l0.take k).map TNode.f4)) by rw [take_map_snoc TNode.f4 hz, mAsc_snoc])
      generalize mAsc ((l0.take k).map TNode.f4) = L at HE HM HF
      have HN := Lib.hid (mPut_len x.f4 L)
      have CP := Lib.hid (spec_l6Put L A m c _ _ x.f4 wr (by omega) HF.out.rd HF.out.cap)
      clear hz hc
      go_wp2_with fail
      refine CP.out.mono ?_
      rintro e w1 ⟨A', c', rfl, h1, h2⟩
      have HF1 := Lib.hid (show Fr w1 w.heap.size w1.heap.size 3 1 A' (mPut x.f4 L).length c' (i64s (mAsc ((l0.take (k + 1)).map TNode.f4))) by rw [HE.out]; exact h1.mono HS.out (Nat.le_refl _))
      have HB1 := Lib.hid (below_trans HB.out h2 (Nat.le_refl _))
      clear h1 h2
      go_wp2_with fail
      go_roundg (n0 - (k + 1))
      case rel => exact ⟨k + 1, A', _, c', by omega, by omega, by go_num, rfl, by have := HN.out; have := HM.out; omega, Lib.hid (by rw [HE.out]), HF1, HB1⟩
      case measure => omega
    · obtain rfl : k = n0 := by omega
      have HT := Lib.hid (show l0.take k = l0 from List.take_of_length_le (by rw [HL.out]; omega))
      obtain rfl := HM.out
      have HF1 := Lib.hid (show Fr wr w.heap.size wr.heap.size 3 1 A (mWorlds l0).length c (i64s (mWorlds l0)) by have h := HF.out; rw [HT.out] at h; exact h)
      have HN := Lib.hid (show (mAsc ((l0.take k).map TNode.f4)).length = (mWorlds l0).length by rw [HT.out]; rfl)
      clear HF HM hmk
      generalize (mAsc ((l0.take k).map TNode.f4)).length = q at HN ⊢
      obtain rfl := HN.out
      go_wp2_with fail
      go_ret
      exact ⟨_, _, rfl, HF1.out, HB.out⟩
end Go.Proofs.Ytoclpdbgmpdbmaa
