/- slices.Values at edits: what its iterator yields. No condition but the length. -/
import Derived.Test.YtkegapaococmcaaGreatEByB
import Derived.RangeFuncNested
import Derived.RangeFuncBound
import Derived.RangeFuncCalls
import Derived.RangeFuncLeaves
import Derived.RangeFuncBox
import Derived.Shelf.Abstract
import Derived.Shelf.RegionOpen
import Derived.WalkKit
import Derived.OwnWalkIn
import Derived.TacticsInMore
import Derived.LoopNIn
import Derived.LoopIn
import Derived.Maps.AppendAt
namespace Go.Proofs.YtkegapaococmcaaGreat
open Go Go.ChangeShapes Go.WideShapes Go.ChangeAt Go.RowKit Go.Lib Go.Shelf
set_option linter.unusedVariables false
set_option linter.unusedSimpArgs false
set_option maxRecDepth 100000
attribute [local go_sem] Oper.semAt_some
set_option maxHeartbeats 8000000 in
theorem ev_Values (m : Nat) (hm : 1 ≤ m) (l n₀ : Nat) (xs : List TEdit) (A : Option Addr) (n c lo hi Bl : Nat) (J Jx : List TEdit → World → Prop) (w : World) (hJ : AbidesFrom w.heap.size J)
    (hY : ∀ pre x W1, J pre W1 → pre.length < n → YieldAt Fence.wide (m - 1) Tryz.prog l #[.agg #[.int .i64 x.f0, .int .i64 x.f1, .int .i64 x.f2, .int .i64 x.f3, .int .i64 x.f4, .int .i64 x.f5]] W1 fun e W' => (e = .returned (.bool true) ∧ J (pre ++ [x]) W' ∧ Below n₀ W1 W') ∨ (e = .returned (.bool false) ∧ Jx (pre ++ [x]) W'))
    (kl : BoxAt w Bl 83 #[.slice A n c]) (hr : Rd w lo hi 6 A n (cEdit xs)) (hhi : hi ≤ n₀) (hl : Bl < n₀) (hn : n ≤ 1048576) (hn₀ : n₀ ≤ w.heap.size) (h0 : J [] w) :
    CallsIn Fence.wide m Tryz.prog 241 #[.func (.yield l) #[] #[], .pointer (some ⟨Bl, 0, none⟩)] w fun e W' => (∃ v, e = .returned v) ∧
      ((∃ ys, ys = xs ∧ J ys W') ∨ (∃ pre, True ∧ Jx pre W')) := by
  have HL := Lib.hid (rd_len TEdit.len hr (by decide))
  have HR := Lib.hid hr
  have HY := Lib.hid hY
  have HJ := Lib.hid hJ
  have e0 : w.cell? ⟨Bl, 0, none⟩ = some (.slice A n c) := kl.at_ rfl
  clear hr hY hJ kl
  refine callsIn_of_wp Tryz.func241 rfl trivial ?_ rfl
  simp only [Tryz.ntmps241, List.size_toArray, List.length_cons, List.length_nil, Nat.reduceAdd, Nat.reduceSub, Array.replicate_succ, Array.replicate_zero, List.push_toArray, List.append_toArray, List.nil_append, List.cons_append]
  gi_wp2
  gi_loopw [7] (fun i wr => ∃ k : Nat, k ≤ n ∧ i = .int .i64 k ∧ Hid (J (xs.take k) wr) ∧ Hid (Below n₀ w wr)) (fun i _ => n - (intOf i).toNat)
  case atStart => exact ⟨0, Nat.zero_le _, rfl, Lib.hid h0, Lib.hid (Below.refl _ _)⟩
  case round =>
    obtain ⟨k, hk', rfl, HJs, HB⟩ := hrel
    by_cases hlt : k < n
    · obtain ⟨b, off, x, rfl, _, _, hz, hc⟩ := rd_elem TEdit.len (HR.out.below HB.out hhi) HL.out hlt
      have c0 : wr.cell? ⟨b, off + k * 6, none⟩ = _ := hc 0 _ rfl
      have c1 := hc 1 _ rfl
      have c2 := hc 2 _ rfl
      have c3 := hc 3 _ rfl
      have c4 := hc 4 _ rfl
      have c5 := hc 5 _ rfl
      have HS := Lib.hid (show n₀ ≤ wr.heap.size by have := HB.out.size; omega)
      have HJ1 := Lib.hid (HJ.out _ _ _ none HJs.out (World.grownBy_alloc wr (.cells #[.int .i64 x.f0, .int .i64 x.f1, .int .i64 x.f2, .int .i64 x.f3, .int .i64 x.f4, .int .i64 x.f5] 71) none) (fun r e => by cases e))
      have HB1 := Lib.hid (HB.out.alloc HS.out (.cells #[.int .i64 x.f0, .int .i64 x.f1, .int .i64 x.f2, .int .i64 x.f3, .int .i64 x.f4, .int .i64 x.f5] 71))
      have H2 := Lib.hid (show xs.take (k + 1) = xs.take k ++ [x] by rw [List.take_add_one, hz]; rfl)
      have hfl : (xs.take k).length < n := Nat.lt_of_le_of_lt (List.length_take_le _ _) hlt
      clear hz hc
      obtain ⟨fn, tmps, assign, body, hy, hR⟩ := HY.out _ x _ HJ1.out hfl
      gi_wp2
      refine hR.mono ?_
      rintro e W3 (⟨rfl, hJ3, hk3⟩ | ⟨rfl, hJx3⟩)
      · have HJ3 := Lib.hid hJ3
        have HB3 := Lib.hid (HB1.out.trans hk3)
        clear hJ3 hk3
        gi_wp2
        go_roundw
        case rel => exact ⟨k + 1, by omega, by go_num, Lib.hid (by rw [H2.out]; exact HJ3.out), HB3⟩
        case measure => simp [intOf]; omega
      · have HJ3 := Lib.hid hJx3
        clear hJx3
        gi_wp2
        refine bodyPost_ret (results_none rfl _ _ _) rfl ?_
        exact ⟨⟨_, rfl⟩, .inr ⟨_, trivial, HJ3.out⟩⟩
    · obtain rfl : n = k := by omega
      have HJ2 := Lib.hid (show J xs wr by have := HJs.out; rwa [List.take_of_length_le (by rw [HL.out]; omega)] at this)
      gi_wp2
      go_end0
      exact ⟨⟨_, rfl⟩, .inl ⟨_, rfl, HJ2.out⟩⟩
theorem stops_Values (m : Nat) (hm : 1 ≤ m) (n₀ : Nat) (xs : List TEdit) (A : Option Addr) (n c lo hi Bl : Nat) (w : World) (kl : BoxAt w Bl 83 #[.slice A n c]) (hr : Rd w lo hi 6 A n (cEdit xs)) (hhi : hi ≤ n₀) (hl : Bl < n₀) (hn : n ≤ 1048576) (hn₀ : n₀ ≤ w.heap.size) :
    SeqStopsK Fence.wide m Tryz.prog 241 #[.pointer (some ⟨Bl, 0, none⟩)] (fun x : TEdit => #[Value.agg #[.int .i64 x.f0, .int .i64 x.f1, .int .i64 x.f2, .int .i64 x.f3, .int .i64 x.f4, .int .i64 x.f5]]) (Below n₀) (fun ys => ys = xs) (fun _ => True) n w := fun l J Jx W hW hJ _ hY h0 =>
  ev_Values m hm l n₀ xs A n c lo hi Bl J Jx W hJ hY (kl.new hW) (hr.new hW) hhi hl hn (Nat.le_trans hn₀ hW.size) h0
theorem make_Values (A : Option Addr) (n c : Nat) (w : World) : Calls Tryz.prog 191 #[.slice A n c] w fun e w' => ∃ Bl : Nat,
    e = .returned (.func (.func 241) #[] #[.pointer (some ⟨Bl, 0, none⟩)]) ∧ BoxAt w' Bl 83 #[.slice A n c] ∧ Below w.heap.size w w' := by
  have hmf : ∀ (fn : Fn) (first cap : Array Value) (w : World), (Instr.makeFunc fn first cap).run Tryz.prog w = .ok (.func fn first cap) w := fun _ _ _ _ => rfl
  have K0 := Lib.hid (box_new w 83 #[.slice A n c])
  go_enter Tryz.func191, Tryz.ntmps191
  go_wp2_with fail
  go_ret
  exact ⟨_, rfl, K0.out, (Below.refl _ _).alloc (Nat.le_refl _) _⟩
end Go.Proofs.YtkegapaococmcaaGreat
