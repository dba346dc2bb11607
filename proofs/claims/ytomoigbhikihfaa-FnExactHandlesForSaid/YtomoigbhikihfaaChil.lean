/- ChildrenOf, of the program and of the model, answer the Ids of the nodes with this Parent, in order. -/
import Derived.Test.YtomoigbhikihfaaTNode
import Derived.Test.YtomoigbhikihfaaSlI
namespace Go.Proofs.Ytomoigbhikihfaa
open Go Go.ChangeShapes Go.WideShapes Go.ChangeAt Go.RowKit Go.Lib
set_option linter.unusedVariables false
set_option maxRecDepth 100000

theorem info_int : (Try.prog.info? 3).map (fun i => (i.zero, i.size, i.bytes)) = some (some (.int .i64 0), 1, 8) := by kernel_rfl
theorem one_int (z : Int) : ∀ u ∈ (#[Value.int .i64 z]).toList, u.oneCell' = true := by
  intro u hu
  simp only [List.mem_singleton] at hu
  subst hu
  rfl
def mChildren (d : List TNode) (id : Int) : List Int := (d.filter fun x => x.f1 == id).map TNode.f0
theorem mChildren_len (d : List TNode) (id : Int) : (mChildren d id).length ≤ d.length := by
  unfold mChildren
  rw [List.length_map]
  exact List.length_filter_le _ _
theorem mChildren_snoc {d : List TNode} {k : Nat} {x : TNode} (id : Int) (h : d[k]? = some x) : mChildren (d.take (k + 1)) id = if (x.f1 == id) = true then mChildren (d.take k) id ++ [x.f0] else mChildren (d.take k) id := by
  rw [List.take_add_one, h]
  unfold mChildren
  rw [Option.toList_some, List.filter_append, List.map_append]
  by_cases e : (x.f1 == id) = true
  · rw [if_pos e, List.filter_cons, if_pos e]; rfl
  · rw [if_neg e, List.filter_cons, if_neg e]; simp
theorem impl_ChildrenOf (l0 : List TNode) (A0 : Option Addr) (n0 c0 lo0 hi0 : Nat) (a1 : Int) (w : World) (h0 : n0 ≤ 1048576) (r0 : Rd w lo0 hi0 5 A0 n0 (cNode l0)) (b0 : Hid (cNodeOk l0)) (w1 : (Lit.int .i64 a1).wf = true) :
    Calls Try.prog 65 #[.slice A0 n0 c0, .int .i64 a1] w (Makes 3 1 (mChildren l0 a1).length (i64s (mChildren l0 a1)) w) := by
  have HL := Lib.hid (rd_len TNode.len r0 (by decide))
  have HR := Lib.hid r0
  clear r0 w1
  go_enter Try.func65, Try.ntmps65
  go_wp2_with fail
  go_loopw [5, 11] (fun v i wr => ∃ k : Nat, k ≤ n0 ∧ i = .int .i64 k ∧ wr.ownsRow w.heap.size 3 1 v (mChildren (l0.take k) a1).length (i64s (mChildren (l0.take k) a1)) ∧ Below w.heap.size w wr) (fun _ i _ => n0 - (intOf i).toNat)
  case atStart => exact ⟨0, Nat.zero_le _, rfl, World.ownsRow_lit w #[] 0 (Nat.le_refl _) (by unfold maxLen; omega) rfl, (Below.refl _ _).alloc (Nat.le_refl _) _⟩
  case round =>
    obtain ⟨k, hk, rfl, hown, hb⟩ := hrel
    have HB := Lib.hid hb
    have HO := Lib.hid hown
    have HS := Lib.hid hb.size
    by_cases hlt : k < n0
    · obtain ⟨b, off, x, rfl, _, _, hz, hc⟩ := rd_elem TNode.len (HR.out.new hb) HL.out hlt
      have c0 : wr.cell? ⟨b, off + k * 5, none⟩ = _ := hc 0 _ rfl
      have c1 := hc 1 _ rfl
      have c2 := hc 2 _ rfl
      have c3 := hc 3 _ rfl
      have c4 := hc 4 _ rfl
      have HE := Lib.hid (mChildren_snoc a1 hz)
      have HN := Lib.hid (Nat.le_trans (mChildren_len (l0.take k) a1) (List.length_take_le _ _))
      clear hb hown hz hc
      by_cases e : (x.f1 == a1) = true
      · have H2 := Lib.hid (by have := HE.out; rwa [if_pos e] at this)
        clear HE
        go_wp2_with (at_builtin; refine wp_app_lit rfl _ _ _ rfl w.heap.size 3 (.int .i64 0) 1 8 Try.underlying23 info_int rfl (by decide) _ _ _ rfl (HO.out.alloc _) #[.int .i64 x.f0] 1 1 _ rfl (by simp) rfl (one_int _) (by have := HN.out; unfold maxLen; omega) (by have := HN.out; omega) (by have := HS.out; simp; omega) ?_; intro v1 w2 ho1 hb1)
        have HO1 := Lib.hid (show w2.ownsRow w.heap.size 3 1 v1 (mChildren (l0.take (k + 1)) a1).length (i64s (mChildren (l0.take (k + 1)) a1)) by
          rw [H2.out]
          simpa using ho1)
        have HB1 := Lib.hid ((HB.out.alloc HS.out _).trans hb1)
        clear ho1 hb1
        go_wp2_with fail
        go_roundw
        case rel => exact ⟨k + 1, by omega, by go_num, HO1.out, HB1.out⟩
        case measure => simp [intOf]; omega
      · have H2 := Lib.hid (by have := HE.out; rwa [if_neg e] at this)
        have e' : (x.f1 == a1) = false := by simpa using e
        clear HE e
        go_wp2_with fail
        go_roundw
        case rel => exact ⟨k + 1, by omega, by go_num, by rw [H2.out]; exact (HO.out.alloc _), (HB.out.alloc HS.out _)⟩
        case measure => simp [intOf]; omega
    · obtain rfl : k = n0 := by omega
      rw [List.take_of_length_le (by rw [HL.out]; omega)] at hown
      have HO := Lib.hid hown
      clear hb hown
      go_wp2_with fail
      go_ret
      exact makes_of_own HO.out HB.out
end Go.Proofs.Ytomoigbhikihfaa
