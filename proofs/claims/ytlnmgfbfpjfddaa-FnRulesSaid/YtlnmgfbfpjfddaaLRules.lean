/- The law FnRules answers true for every argument, and leaves each argument as it was. No condition. -/
import Derived.Test.YtlnmgfbfpjfddaaFrame
import Derived.Test.YtlnmgfbfpjfddaaRuM
import Derived.Test.YtlnmgfbfpjfddaaDrU
import Derived.Test.YtlnmgfbfpjfddaaRulesOf
import Derived.Deep.DeepCutAuto
namespace Go.Proofs.Ytlnmgfbfpjfddaa.fnRules
open Go Go.ChangeShapes Go.WideShapes Go.ChangeAt Go.RowKit Go.Lib
open Go.ChangeMaps (open_string)
set_option linter.unusedVariables false
set_option linter.unusedSimpArgs false
set_option maxRecDepth 100000
set_option maxHeartbeats 16000000 in

theorem walk (A0 : Option Addr) (n0 c0 : Nat) (w0 : n0 ≤ maxLen) (w : World) (m0 : BytesAt w w.heap.size A0 n0) :
    Calls Try.prog 3 #[.slice A0 n0 c0] w fun e w' => e = .returned (.bool true) ∧ Below w.heap.size w w' := by
  have hn0 : n0 ≤ 9223372036854775807 := w0
  by_cases h : n0 ≤ 1048576
  · skip
    have g : decide ((1048576 : Int) < n0) = false := by simp; omega
    have M0 := Lib.hid m0
    clear m0
    go_enter Try.func3, Try.ntmps3
    go_wp2_with fail
    refine (big_any n0 c0 A0 _ w0).mono ?_
    rintro e w1 ⟨rfl, rfl⟩
    rw [g]
    have HB := Lib.hid (Below.refl w.heap.size w)
    go_wp2_with fail
    refine Calls.mono (drawIB_any n0 c0 A0 _ (by omega) (bytes_below M0.out HB.out)) ?_
    rintro e w2 ⟨a, b, _, _, rfl, hb⟩
    replace HB := Lib.hid (below_trans HB.out hb (Nat.le_refl _))
    clear hb
    have hsz1 : w.heap.size ≤ w2.heap.size := HB.out.size
    have KA := Lib.hid (show BoxAt (World.alloc w2 (.cells #[.int .i64 0, .int .i64 0, .int .i64 0, .int .i64 0, .int .i64 0, .int .i64 0, .int .i64 0, .int .i64 0] 28)) w2.heap.size 28 #[.int .i64 0, .int .i64 0, .int .i64 0, .int .i64 0, .int .i64 0, .int .i64 0, .int .i64 0, .int .i64 0] from by simpa using box_new w2 28 #[.int .i64 0, .int .i64 0, .int .i64 0, .int .i64 0, .int .i64 0, .int .i64 0, .int .i64 0, .int .i64 0])
    replace HB := Lib.hid (HB.out.alloc (by have := HB.out.size; (try simp at this ⊢); omega) (.cells #[.int .i64 0, .int .i64 0, .int .i64 0, .int .i64 0, .int .i64 0, .int .i64 0, .int .i64 0, .int .i64 0] 28))
    have KB := Lib.hid (show BoxAt (World.alloc (World.alloc w2 (.cells #[.int .i64 0, .int .i64 0, .int .i64 0, .int .i64 0, .int .i64 0, .int .i64 0, .int .i64 0, .int .i64 0] 28)) (.cells #[.int .i64 0, .int .i64 0, .int .i64 0, .int .i64 0, .int .i64 0, .int .i64 0, .int .i64 0, .int .i64 0] 28)) (w2.heap.size + 1) 28 #[.int .i64 0, .int .i64 0, .int .i64 0, .int .i64 0, .int .i64 0, .int .i64 0, .int .i64 0, .int .i64 0] from by simpa using box_new (World.alloc w2 (.cells #[.int .i64 0, .int .i64 0, .int .i64 0, .int .i64 0, .int .i64 0, .int .i64 0, .int .i64 0, .int .i64 0] 28)) 28 #[.int .i64 0, .int .i64 0, .int .i64 0, .int .i64 0, .int .i64 0, .int .i64 0, .int .i64 0, .int .i64 0])
    replace KA := Lib.hid (KA.out.alloc_ (.cells #[.int .i64 0, .int .i64 0, .int .i64 0, .int .i64 0, .int .i64 0, .int .i64 0, .int .i64 0, .int .i64 0] 28))
    replace HB := Lib.hid (HB.out.alloc (by have := HB.out.size; (try simp at this ⊢); omega) (.cells #[.int .i64 0, .int .i64 0, .int .i64 0, .int .i64 0, .int .i64 0, .int .i64 0, .int .i64 0, .int .i64 0] 28))
    obtain ⟨w3, hx⟩ : ∃ x, x = World.setRow (World.alloc (World.alloc w2 (.cells #[.int .i64 0, .int .i64 0, .int .i64 0, .int .i64 0, .int .i64 0, .int .i64 0, .int .i64 0, .int .i64 0] 28)) (.cells #[.int .i64 0, .int .i64 0, .int .i64 0, .int .i64 0, .int .i64 0, .int .i64 0, .int .i64 0, .int .i64 0] 28)) w2.heap.size #[.int .i64 a.f0, .int .i64 a.f1, .int .i64 a.f2, .int .i64 a.f3, .int .i64 a.f4, .int .i64 a.f5, .int .i64 a.f6, .int .i64 a.f7] := ⟨_, rfl⟩
    have HX3 := Lib.hid hx
    have OLD3 := KA
    replace KA := Lib.hid (show BoxAt w3 w2.heap.size 28 #[.int .i64 a.f0, .int .i64 a.f1, .int .i64 a.f2, .int .i64 a.f3, .int .i64 a.f4, .int .i64 a.f5, .int .i64 a.f6, .int .i64 a.f7] by rw [hx]; exact box_row KA.out)
    replace KB := Lib.hid (show BoxAt w3 (w2.heap.size + 1) 28 #[.int .i64 0, .int .i64 0, .int .i64 0, .int .i64 0, .int .i64 0, .int .i64 0, .int .i64 0, .int .i64 0] by rw [hx]; exact box_far KB.out (by omega))
    replace HB := Lib.hid (show Below w.heap.size w w3 by rw [hx]; exact below_setRow HB.out (by omega) _)
    clear hx
    obtain ⟨w4, hx⟩ : ∃ x, x = World.setRow w3 (w2.heap.size + 1) #[.int .i64 b.f0, .int .i64 b.f1, .int .i64 b.f2, .int .i64 b.f3, .int .i64 b.f4, .int .i64 b.f5, .int .i64 b.f6, .int .i64 b.f7] := ⟨_, rfl⟩
    have HX4 := Lib.hid hx
    have OLD4 := KB
    replace KA := Lib.hid (show BoxAt w4 w2.heap.size 28 #[.int .i64 a.f0, .int .i64 a.f1, .int .i64 a.f2, .int .i64 a.f3, .int .i64 a.f4, .int .i64 a.f5, .int .i64 a.f6, .int .i64 a.f7] by rw [hx]; exact box_far KA.out (by omega))
    replace KB := Lib.hid (show BoxAt w4 (w2.heap.size + 1) 28 #[.int .i64 b.f0, .int .i64 b.f1, .int .i64 b.f2, .int .i64 b.f3, .int .i64 b.f4, .int .i64 b.f5, .int .i64 b.f6, .int .i64 b.f7] by rw [hx]; exact box_row KB.out)
    replace HB := Lib.hid (show Below w.heap.size w w4 by rw [hx]; exact below_setRow HB.out (by omega) _)
    clear hx
    have lKA : w2.heap.size < w4.heap.size := KA.out.lt
    have lKB : (w2.heap.size + 1) < w4.heap.size := KB.out.lt
    obtain ⟨v1, E1⟩ : ∃ v, mIsBefore a b = v := ⟨_, rfl⟩
    obtain ⟨v2, E2⟩ : ∃ v, mIsBefore b a = v := ⟨_, rfl⟩
    have E0 := before_irr a
    go_upto_region 4 with (first | (refine wpList_store_row rfl 28 _ _ rfl w2.heap.size #[.int .i64 a.f0, .int .i64 a.f1, .int .i64 a.f2, .int .i64 a.f3, .int .i64 a.f4, .int .i64 a.f5, .int .i64 a.f6, .int .i64 a.f7] rfl rfl 28 _ OLD3.out (by kernel_rfl) (by kernel_rfl) (by kernel_rfl) ?_; rw [← HX3.out]; clear HX3 OLD3) | (refine wpList_store_row rfl 28 _ _ rfl (w2.heap.size + 1) #[.int .i64 b.f0, .int .i64 b.f1, .int .i64 b.f2, .int .i64 b.f3, .int .i64 b.f4, .int .i64 b.f5, .int .i64 b.f6, .int .i64 b.f7] rfl rfl 28 _ OLD4.out (by kernel_rfl) (by kernel_rfl) (by kernel_rfl) ?_; rw [← HX4.out]; clear HX4 OLD4))
    try simp only [Act.put]
    go_cut [48] (fun s48 wx => s48 = .bool false ∧ Hid (BoxAt wx w2.heap.size 28 #[.int .i64 a.f0, .int .i64 a.f1, .int .i64 a.f2, .int .i64 a.f3, .int .i64 a.f4, .int .i64 a.f5, .int .i64 a.f6, .int .i64 a.f7]) ∧ Hid (BoxAt wx (w2.heap.size + 1) 28 #[.int .i64 b.f0, .int .i64 b.f1, .int .i64 b.f2, .int .i64 b.f3, .int .i64 b.f4, .int .i64 b.f5, .int .i64 b.f6, .int .i64 b.f7]) ∧ Hid (Below w.heap.size w wx))
    case first =>
      have kKA0 := KA.out.at_ (j := 0) rfl
      have kKA1 := KA.out.at_ (j := 1) rfl
      have kKA2 := KA.out.at_ (j := 2) rfl
      have kKA3 := KA.out.at_ (j := 3) rfl
      have kKA4 := KA.out.at_ (j := 4) rfl
      have kKA5 := KA.out.at_ (j := 5) rfl
      have kKA6 := KA.out.at_ (j := 6) rfl
      have kKA7 := KA.out.at_ (j := 7) rfl
      have kKB0 := KB.out.at_ (j := 0) rfl
      have kKB1 := KB.out.at_ (j := 1) rfl
      have kKB2 := KB.out.at_ (j := 2) rfl
      have kKB3 := KB.out.at_ (j := 3) rfl
      have kKB4 := KB.out.at_ (j := 4) rfl
      have kKB5 := KB.out.at_ (j := 5) rfl
      have kKB6 := KB.out.at_ (j := 6) rfl
      have kKB7 := KB.out.at_ (j := 7) rfl
      go_wp2_with fail
      clear kKA0 kKA1 kKA2 kKA3 kKA4 kKA5 kKA6 kKA7 kKB0 kKB1 kKB2 kKB3 kKB4 kKB5 kKB6 kKB7
      refine Calls.mono (isb_eq a a _ E0 _) ?_
      rintro e w5 ⟨rfl, hb⟩
      replace KA := Lib.hid (KA.out.new hb)
      replace KB := Lib.hid (KB.out.new hb)
      replace HB := Lib.hid (below_trans HB.out hb (Nat.le_refl _))
      clear hb
      have lKA : w2.heap.size < w5.heap.size := KA.out.lt
      have lKB : (w2.heap.size + 1) < w5.heap.size := KB.out.lt
      have kKA0 := KA.out.at_ (j := 0) rfl
      have kKA1 := KA.out.at_ (j := 1) rfl
      have kKA2 := KA.out.at_ (j := 2) rfl
      have kKA3 := KA.out.at_ (j := 3) rfl
      have kKA4 := KA.out.at_ (j := 4) rfl
      have kKA5 := KA.out.at_ (j := 5) rfl
      have kKA6 := KA.out.at_ (j := 6) rfl
      have kKA7 := KA.out.at_ (j := 7) rfl
      have kKB0 := KB.out.at_ (j := 0) rfl
      have kKB1 := KB.out.at_ (j := 1) rfl
      have kKB2 := KB.out.at_ (j := 2) rfl
      have kKB3 := KB.out.at_ (j := 3) rfl
      have kKB4 := KB.out.at_ (j := 4) rfl
      have kKB5 := KB.out.at_ (j := 5) rfl
      have kKB6 := KB.out.at_ (j := 6) rfl
      have kKB7 := KB.out.at_ (j := 7) rfl
      go_wp2_with fail
      clear kKA0 kKA1 kKA2 kKA3 kKA4 kKA5 kKA6 kKA7 kKB0 kKB1 kKB2 kKB3 kKB4 kKB5 kKB6 kKB7
      refine Calls.mono (isb_eq a b _ E1 _) ?_
      rintro e w6 ⟨rfl, hb⟩
      replace KA := Lib.hid (KA.out.new hb)
      replace KB := Lib.hid (KB.out.new hb)
      replace HB := Lib.hid (below_trans HB.out hb (Nat.le_refl _))
      clear hb
      have lKA : w2.heap.size < w6.heap.size := KA.out.lt
      have lKB : (w2.heap.size + 1) < w6.heap.size := KB.out.lt
      cases v1 with
      | true =>
        have E2' := before_anti a b E1
        have kKA0 := KA.out.at_ (j := 0) rfl
        have kKA1 := KA.out.at_ (j := 1) rfl
        have kKA2 := KA.out.at_ (j := 2) rfl
        have kKA3 := KA.out.at_ (j := 3) rfl
        have kKA4 := KA.out.at_ (j := 4) rfl
        have kKA5 := KA.out.at_ (j := 5) rfl
        have kKA6 := KA.out.at_ (j := 6) rfl
        have kKA7 := KA.out.at_ (j := 7) rfl
        have kKB0 := KB.out.at_ (j := 0) rfl
        have kKB1 := KB.out.at_ (j := 1) rfl
        have kKB2 := KB.out.at_ (j := 2) rfl
        have kKB3 := KB.out.at_ (j := 3) rfl
        have kKB4 := KB.out.at_ (j := 4) rfl
        have kKB5 := KB.out.at_ (j := 5) rfl
        have kKB6 := KB.out.at_ (j := 6) rfl
        have kKB7 := KB.out.at_ (j := 7) rfl
        go_wp2_with fail
        clear kKA0 kKA1 kKA2 kKA3 kKA4 kKA5 kKA6 kKA7 kKB0 kKB1 kKB2 kKB3 kKB4 kKB5 kKB6 kKB7
        refine Calls.mono (isb_eq b a _ E2' _) ?_
        rintro e w7 ⟨rfl, hb⟩
        replace KA := Lib.hid (KA.out.new hb)
        replace KB := Lib.hid (KB.out.new hb)
        replace HB := Lib.hid (below_trans HB.out hb (Nat.le_refl _))
        clear hb
        have lKA : w2.heap.size < w7.heap.size := KA.out.lt
        have lKB : (w2.heap.size + 1) < w7.heap.size := KB.out.lt
        have kKA0 := KA.out.at_ (j := 0) rfl
        have kKA1 := KA.out.at_ (j := 1) rfl
        have kKA2 := KA.out.at_ (j := 2) rfl
        have kKA3 := KA.out.at_ (j := 3) rfl
        have kKA4 := KA.out.at_ (j := 4) rfl
        have kKA5 := KA.out.at_ (j := 5) rfl
        have kKA6 := KA.out.at_ (j := 6) rfl
        have kKA7 := KA.out.at_ (j := 7) rfl
        have kKB0 := KB.out.at_ (j := 0) rfl
        have kKB1 := KB.out.at_ (j := 1) rfl
        have kKB2 := KB.out.at_ (j := 2) rfl
        have kKB3 := KB.out.at_ (j := 3) rfl
        have kKB4 := KB.out.at_ (j := 4) rfl
        have kKB5 := KB.out.at_ (j := 5) rfl
        have kKB6 := KB.out.at_ (j := 6) rfl
        have kKB7 := KB.out.at_ (j := 7) rfl
        go_wp2_with fail
        clear kKA0 kKA1 kKA2 kKA3 kKA4 kKA5 kKA6 kKA7 kKB0 kKB1 kKB2 kKB3 kKB4 kKB5 kKB6 kKB7
        refine Calls.mono (isb_eq a b _ E1 _) ?_
        rintro e w8 ⟨rfl, hb⟩
        replace KA := Lib.hid (KA.out.new hb)
        replace KB := Lib.hid (KB.out.new hb)
        replace HB := Lib.hid (below_trans HB.out hb (Nat.le_refl _))
        clear hb
        have lKA : w2.heap.size < w8.heap.size := KA.out.lt
        have lKB : (w2.heap.size + 1) < w8.heap.size := KB.out.lt
        go_wp2_with fail
        go_meet
        case rel => exact ⟨rfl, KA, KB, HB⟩
      | false =>
        have kKA0 := KA.out.at_ (j := 0) rfl
        have kKA1 := KA.out.at_ (j := 1) rfl
        have kKA2 := KA.out.at_ (j := 2) rfl
        have kKA3 := KA.out.at_ (j := 3) rfl
        have kKA4 := KA.out.at_ (j := 4) rfl
        have kKA5 := KA.out.at_ (j := 5) rfl
        have kKA6 := KA.out.at_ (j := 6) rfl
        have kKA7 := KA.out.at_ (j := 7) rfl
        have kKB0 := KB.out.at_ (j := 0) rfl
        have kKB1 := KB.out.at_ (j := 1) rfl
        have kKB2 := KB.out.at_ (j := 2) rfl
        have kKB3 := KB.out.at_ (j := 3) rfl
        have kKB4 := KB.out.at_ (j := 4) rfl
        have kKB5 := KB.out.at_ (j := 5) rfl
        have kKB6 := KB.out.at_ (j := 6) rfl
        have kKB7 := KB.out.at_ (j := 7) rfl
        go_wp2_with fail
        clear kKA0 kKA1 kKA2 kKA3 kKA4 kKA5 kKA6 kKA7 kKB0 kKB1 kKB2 kKB3 kKB4 kKB5 kKB6 kKB7
        refine Calls.mono (isb_eq a b _ E1 _) ?_
        rintro e w7 ⟨rfl, hb⟩
        replace KA := Lib.hid (KA.out.new hb)
        replace KB := Lib.hid (KB.out.new hb)
        replace HB := Lib.hid (below_trans HB.out hb (Nat.le_refl _))
        clear hb
        have lKA : w2.heap.size < w7.heap.size := KA.out.lt
        have lKB : (w2.heap.size + 1) < w7.heap.size := KB.out.lt
        have kKA0 := KA.out.at_ (j := 0) rfl
        have kKA1 := KA.out.at_ (j := 1) rfl
        have kKA2 := KA.out.at_ (j := 2) rfl
        have kKA3 := KA.out.at_ (j := 3) rfl
        have kKA4 := KA.out.at_ (j := 4) rfl
        have kKA5 := KA.out.at_ (j := 5) rfl
        have kKA6 := KA.out.at_ (j := 6) rfl
        have kKA7 := KA.out.at_ (j := 7) rfl
        have kKB0 := KB.out.at_ (j := 0) rfl
        have kKB1 := KB.out.at_ (j := 1) rfl
        have kKB2 := KB.out.at_ (j := 2) rfl
        have kKB3 := KB.out.at_ (j := 3) rfl
        have kKB4 := KB.out.at_ (j := 4) rfl
        have kKB5 := KB.out.at_ (j := 5) rfl
        have kKB6 := KB.out.at_ (j := 6) rfl
        have kKB7 := KB.out.at_ (j := 7) rfl
        go_wp2_with fail
        clear kKA0 kKA1 kKA2 kKA3 kKA4 kKA5 kKA6 kKA7 kKB0 kKB1 kKB2 kKB3 kKB4 kKB5 kKB6 kKB7
        refine Calls.mono (isb_eq b a _ E2 _) ?_
        rintro e w8 ⟨rfl, hb⟩
        replace KA := Lib.hid (KA.out.new hb)
        replace KB := Lib.hid (KB.out.new hb)
        replace HB := Lib.hid (below_trans HB.out hb (Nat.le_refl _))
        clear hb
        have lKA : w2.heap.size < w8.heap.size := KA.out.lt
        have lKB : (w2.heap.size + 1) < w8.heap.size := KB.out.lt
        cases v2 with
        | true =>
          go_wp2_with fail
          go_meet
          case rel => exact ⟨rfl, KA, KB, HB⟩
        | false =>
          have kKA0 := KA.out.at_ (j := 0) rfl
          have kKA1 := KA.out.at_ (j := 1) rfl
          have kKA2 := KA.out.at_ (j := 2) rfl
          have kKA3 := KA.out.at_ (j := 3) rfl
          have kKA4 := KA.out.at_ (j := 4) rfl
          have kKA5 := KA.out.at_ (j := 5) rfl
          have kKA6 := KA.out.at_ (j := 6) rfl
          have kKA7 := KA.out.at_ (j := 7) rfl
          have kKB0 := KB.out.at_ (j := 0) rfl
          have kKB1 := KB.out.at_ (j := 1) rfl
          have kKB2 := KB.out.at_ (j := 2) rfl
          have kKB3 := KB.out.at_ (j := 3) rfl
          have kKB4 := KB.out.at_ (j := 4) rfl
          have kKB5 := KB.out.at_ (j := 5) rfl
          have kKB6 := KB.out.at_ (j := 6) rfl
          have kKB7 := KB.out.at_ (j := 7) rfl
          go_wp2_with fail
          clear kKA0 kKA1 kKA2 kKA3 kKA4 kKA5 kKA6 kKA7 kKB0 kKB1 kKB2 kKB3 kKB4 kKB5 kKB6 kKB7
          refine Calls.mono (same_rule a b _ (before_tri a b E1 E2)) ?_
          rintro e w9 ⟨rfl, hb⟩
          replace KA := Lib.hid (KA.out.new hb)
          replace KB := Lib.hid (KB.out.new hb)
          replace HB := Lib.hid (below_trans HB.out hb (Nat.le_refl _))
          clear hb
          have lKA : w2.heap.size < w9.heap.size := KA.out.lt
          have lKB : (w2.heap.size + 1) < w9.heap.size := KB.out.lt
          go_wp2_with fail
          go_meet
          case rel => exact ⟨rfl, KA, KB, HB⟩
    case rest =>
      obtain ⟨rfl, KA, KB, HB⟩ := hcut
      have lKA : w2.heap.size < wc.heap.size := KA.out.lt
      have lKB : (w2.heap.size + 1) < wc.heap.size := KB.out.lt
      go_wp2_with fail
      refine Calls.mono (drawAp_any n0 c0 A0 _ (by omega) (bytes_below M0.out HB.out)) ?_
      rintro e w6 ⟨r, p, _, _, rfl, hb⟩
      replace KA := Lib.hid (KA.out.new hb)
      replace KB := Lib.hid (KB.out.new hb)
      replace HB := Lib.hid (below_trans HB.out hb (Nat.le_refl _))
      clear hb
      have lKA : w2.heap.size < w6.heap.size := KA.out.lt
      have lKB : (w2.heap.size + 1) < w6.heap.size := KB.out.lt
      have hsz2 : w.heap.size ≤ w6.heap.size := HB.out.size
      have KR := Lib.hid (show BoxAt (World.alloc w6 (.cells #[.int .i64 0, .int .i64 0, .int .i64 0, .int .i64 0, .int .i64 0, .int .i64 0, .int .i64 0, .int .i64 0] 28)) w6.heap.size 28 #[.int .i64 0, .int .i64 0, .int .i64 0, .int .i64 0, .int .i64 0, .int .i64 0, .int .i64 0, .int .i64 0] from by simpa using box_new w6 28 #[.int .i64 0, .int .i64 0, .int .i64 0, .int .i64 0, .int .i64 0, .int .i64 0, .int .i64 0, .int .i64 0])
      replace KA := Lib.hid (KA.out.alloc_ (.cells #[.int .i64 0, .int .i64 0, .int .i64 0, .int .i64 0, .int .i64 0, .int .i64 0, .int .i64 0, .int .i64 0] 28))
      replace KB := Lib.hid (KB.out.alloc_ (.cells #[.int .i64 0, .int .i64 0, .int .i64 0, .int .i64 0, .int .i64 0, .int .i64 0, .int .i64 0, .int .i64 0] 28))
      replace HB := Lib.hid (HB.out.alloc (by have := HB.out.size; (try simp at this ⊢); omega) (.cells #[.int .i64 0, .int .i64 0, .int .i64 0, .int .i64 0, .int .i64 0, .int .i64 0, .int .i64 0, .int .i64 0] 28))
      have KQ := Lib.hid (show BoxAt (World.alloc (World.alloc w6 (.cells #[.int .i64 0, .int .i64 0, .int .i64 0, .int .i64 0, .int .i64 0, .int .i64 0, .int .i64 0, .int .i64 0] 28)) (.cells #[.int .i64 0, .int .i64 0, .int .i64 0] 33)) (w6.heap.size + 1) 33 #[.int .i64 0, .int .i64 0, .int .i64 0] from by simpa using box_new (World.alloc w6 (.cells #[.int .i64 0, .int .i64 0, .int .i64 0, .int .i64 0, .int .i64 0, .int .i64 0, .int .i64 0, .int .i64 0] 28)) 33 #[.int .i64 0, .int .i64 0, .int .i64 0])
      replace KA := Lib.hid (KA.out.alloc_ (.cells #[.int .i64 0, .int .i64 0, .int .i64 0] 33))
      replace KB := Lib.hid (KB.out.alloc_ (.cells #[.int .i64 0, .int .i64 0, .int .i64 0] 33))
      replace KR := Lib.hid (KR.out.alloc_ (.cells #[.int .i64 0, .int .i64 0, .int .i64 0] 33))
      replace HB := Lib.hid (HB.out.alloc (by have := HB.out.size; (try simp at this ⊢); omega) (.cells #[.int .i64 0, .int .i64 0, .int .i64 0] 33))
      obtain ⟨w7, hx⟩ : ∃ x, x = World.setRow (World.alloc (World.alloc w6 (.cells #[.int .i64 0, .int .i64 0, .int .i64 0, .int .i64 0, .int .i64 0, .int .i64 0, .int .i64 0, .int .i64 0] 28)) (.cells #[.int .i64 0, .int .i64 0, .int .i64 0] 33)) w6.heap.size #[.int .i64 r.f0, .int .i64 r.f1, .int .i64 r.f2, .int .i64 r.f3, .int .i64 r.f4, .int .i64 r.f5, .int .i64 r.f6, .int .i64 r.f7] := ⟨_, rfl⟩
      have HX7 := Lib.hid hx
      have OLD7 := KR
      replace KA := Lib.hid (show BoxAt w7 w2.heap.size 28 #[.int .i64 a.f0, .int .i64 a.f1, .int .i64 a.f2, .int .i64 a.f3, .int .i64 a.f4, .int .i64 a.f5, .int .i64 a.f6, .int .i64 a.f7] by rw [hx]; exact box_far KA.out (by omega))
      replace KB := Lib.hid (show BoxAt w7 (w2.heap.size + 1) 28 #[.int .i64 b.f0, .int .i64 b.f1, .int .i64 b.f2, .int .i64 b.f3, .int .i64 b.f4, .int .i64 b.f5, .int .i64 b.f6, .int .i64 b.f7] by rw [hx]; exact box_far KB.out (by omega))
      replace KR := Lib.hid (show BoxAt w7 w6.heap.size 28 #[.int .i64 r.f0, .int .i64 r.f1, .int .i64 r.f2, .int .i64 r.f3, .int .i64 r.f4, .int .i64 r.f5, .int .i64 r.f6, .int .i64 r.f7] by rw [hx]; exact box_row KR.out)
      replace KQ := Lib.hid (show BoxAt w7 (w6.heap.size + 1) 33 #[.int .i64 0, .int .i64 0, .int .i64 0] by rw [hx]; exact box_far KQ.out (by omega))
      replace HB := Lib.hid (show Below w.heap.size w w7 by rw [hx]; exact below_setRow HB.out (by omega) _)
      clear hx
      obtain ⟨w8, hx⟩ : ∃ x, x = World.setRow w7 (w6.heap.size + 1) #[.int .i64 p.f0, .int .i64 p.f1, .int .i64 p.f2] := ⟨_, rfl⟩
      have HX8 := Lib.hid hx
      have OLD8 := KQ
      replace KA := Lib.hid (show BoxAt w8 w2.heap.size 28 #[.int .i64 a.f0, .int .i64 a.f1, .int .i64 a.f2, .int .i64 a.f3, .int .i64 a.f4, .int .i64 a.f5, .int .i64 a.f6, .int .i64 a.f7] by rw [hx]; exact box_far KA.out (by omega))
      replace KB := Lib.hid (show BoxAt w8 (w2.heap.size + 1) 28 #[.int .i64 b.f0, .int .i64 b.f1, .int .i64 b.f2, .int .i64 b.f3, .int .i64 b.f4, .int .i64 b.f5, .int .i64 b.f6, .int .i64 b.f7] by rw [hx]; exact box_far KB.out (by omega))
      replace KR := Lib.hid (show BoxAt w8 w6.heap.size 28 #[.int .i64 r.f0, .int .i64 r.f1, .int .i64 r.f2, .int .i64 r.f3, .int .i64 r.f4, .int .i64 r.f5, .int .i64 r.f6, .int .i64 r.f7] by rw [hx]; exact box_far KR.out (by omega))
      replace KQ := Lib.hid (show BoxAt w8 (w6.heap.size + 1) 33 #[.int .i64 p.f0, .int .i64 p.f1, .int .i64 p.f2] by rw [hx]; exact box_row KQ.out)
      replace HB := Lib.hid (show Below w.heap.size w w8 by rw [hx]; exact below_setRow HB.out (by omega) _)
      clear hx
      have lKA : w2.heap.size < w8.heap.size := KA.out.lt
      have lKB : (w2.heap.size + 1) < w8.heap.size := KB.out.lt
      have lKR : w6.heap.size < w8.heap.size := KR.out.lt
      have lKQ : (w6.heap.size + 1) < w8.heap.size := KQ.out.lt
      obtain ⟨v3, E3⟩ : ∃ v, mApplies r p = v := ⟨_, rfl⟩
      obtain ⟨v4, E4⟩ : ∃ v, mIsBefore b r = v := ⟨_, rfl⟩
      obtain ⟨v5, E5⟩ : ∃ v, mIsRule r = v := ⟨_, rfl⟩
      go_upto_region 7 with (first | (refine wpList_store_row rfl 28 _ _ rfl w6.heap.size #[.int .i64 r.f0, .int .i64 r.f1, .int .i64 r.f2, .int .i64 r.f3, .int .i64 r.f4, .int .i64 r.f5, .int .i64 r.f6, .int .i64 r.f7] rfl rfl 28 _ OLD7.out (by kernel_rfl) (by kernel_rfl) (by kernel_rfl) ?_; rw [← HX7.out]; clear HX7 OLD7) | (refine wpList_store_row rfl 33 _ _ rfl (w6.heap.size + 1) #[.int .i64 p.f0, .int .i64 p.f1, .int .i64 p.f2] rfl rfl 33 _ OLD8.out (by kernel_rfl) (by kernel_rfl) (by kernel_rfl) ?_; rw [← HX8.out]; clear HX8 OLD8))
      try simp only [Act.put]
      go_cut [74] (fun s74 wx => s74 = .bool false ∧ Hid (BoxAt wx w2.heap.size 28 #[.int .i64 a.f0, .int .i64 a.f1, .int .i64 a.f2, .int .i64 a.f3, .int .i64 a.f4, .int .i64 a.f5, .int .i64 a.f6, .int .i64 a.f7]) ∧ Hid (BoxAt wx (w2.heap.size + 1) 28 #[.int .i64 b.f0, .int .i64 b.f1, .int .i64 b.f2, .int .i64 b.f3, .int .i64 b.f4, .int .i64 b.f5, .int .i64 b.f6, .int .i64 b.f7]) ∧ Hid (BoxAt wx w6.heap.size 28 #[.int .i64 r.f0, .int .i64 r.f1, .int .i64 r.f2, .int .i64 r.f3, .int .i64 r.f4, .int .i64 r.f5, .int .i64 r.f6, .int .i64 r.f7]) ∧ Hid (BoxAt wx (w6.heap.size + 1) 33 #[.int .i64 p.f0, .int .i64 p.f1, .int .i64 p.f2]) ∧ Hid (Below w.heap.size w wx))
      case first =>
        have kKR0 := KR.out.at_ (j := 0) rfl
        have kKR1 := KR.out.at_ (j := 1) rfl
        have kKR2 := KR.out.at_ (j := 2) rfl
        have kKR3 := KR.out.at_ (j := 3) rfl
        have kKR4 := KR.out.at_ (j := 4) rfl
        have kKR5 := KR.out.at_ (j := 5) rfl
        have kKR6 := KR.out.at_ (j := 6) rfl
        have kKR7 := KR.out.at_ (j := 7) rfl
        have kKQ0 := KQ.out.at_ (j := 0) rfl
        have kKQ1 := KQ.out.at_ (j := 1) rfl
        have kKQ2 := KQ.out.at_ (j := 2) rfl
        go_wp2_with fail
        clear kKR0 kKR1 kKR2 kKR3 kKR4 kKR5 kKR6 kKR7 kKQ0 kKQ1 kKQ2
        refine Calls.mono (app_eq r p _ E3 _) ?_
        rintro e w9 ⟨rfl, hb⟩
        replace KA := Lib.hid (KA.out.new hb)
        replace KB := Lib.hid (KB.out.new hb)
        replace KR := Lib.hid (KR.out.new hb)
        replace KQ := Lib.hid (KQ.out.new hb)
        replace HB := Lib.hid (below_trans HB.out hb (Nat.le_refl _))
        clear hb
        have lKA : w2.heap.size < w9.heap.size := KA.out.lt
        have lKB : (w2.heap.size + 1) < w9.heap.size := KB.out.lt
        have lKR : w6.heap.size < w9.heap.size := KR.out.lt
        have lKQ : (w6.heap.size + 1) < w9.heap.size := KQ.out.lt
        cases v3 with
        | false =>
          go_wp2_with fail
          go_meet
          case rel => exact ⟨rfl, KA, KB, KR, KQ, HB⟩
        | true =>
          obtain ⟨A1, A2, A3⟩ := applies_rule E3
          have kKR0 := KR.out.at_ (j := 0) rfl
          have kKR1 := KR.out.at_ (j := 1) rfl
          have kKR2 := KR.out.at_ (j := 2) rfl
          have kKR3 := KR.out.at_ (j := 3) rfl
          have kKR4 := KR.out.at_ (j := 4) rfl
          have kKR5 := KR.out.at_ (j := 5) rfl
          have kKR6 := KR.out.at_ (j := 6) rfl
          have kKR7 := KR.out.at_ (j := 7) rfl
          have kKQ0 := KQ.out.at_ (j := 0) rfl
          have kKQ1 := KQ.out.at_ (j := 1) rfl
          have kKQ2 := KQ.out.at_ (j := 2) rfl
          go_wp2_with fail
          clear kKR0 kKR1 kKR2 kKR3 kKR4 kKR5 kKR6 kKR7 kKQ0 kKQ1 kKQ2
          refine Calls.mono (isr_eq r _ A1 _) ?_
          rintro e w10 ⟨rfl, hb⟩
          replace KA := Lib.hid (KA.out.new hb)
          replace KB := Lib.hid (KB.out.new hb)
          replace KR := Lib.hid (KR.out.new hb)
          replace KQ := Lib.hid (KQ.out.new hb)
          replace HB := Lib.hid (below_trans HB.out hb (Nat.le_refl _))
          clear hb
          have lKA : w2.heap.size < w10.heap.size := KA.out.lt
          have lKB : (w2.heap.size + 1) < w10.heap.size := KB.out.lt
          have lKR : w6.heap.size < w10.heap.size := KR.out.lt
          have lKQ : (w6.heap.size + 1) < w10.heap.size := KQ.out.lt
          have kKR0 := KR.out.at_ (j := 0) rfl
          have kKR1 := KR.out.at_ (j := 1) rfl
          have kKR2 := KR.out.at_ (j := 2) rfl
          have kKR3 := KR.out.at_ (j := 3) rfl
          have kKR4 := KR.out.at_ (j := 4) rfl
          have kKR5 := KR.out.at_ (j := 5) rfl
          have kKR6 := KR.out.at_ (j := 6) rfl
          have kKR7 := KR.out.at_ (j := 7) rfl
          have kKQ0 := KQ.out.at_ (j := 0) rfl
          have kKQ1 := KQ.out.at_ (j := 1) rfl
          have kKQ2 := KQ.out.at_ (j := 2) rfl
          go_wp2_with fail
          clear kKR0 kKR1 kKR2 kKR3 kKR4 kKR5 kKR6 kKR7 kKQ0 kKQ1 kKQ2
          refine Calls.mono (isq_eq p _ A2 _) ?_
          rintro e w11 ⟨rfl, hb⟩
          replace KA := Lib.hid (KA.out.new hb)
          replace KB := Lib.hid (KB.out.new hb)
          replace KR := Lib.hid (KR.out.new hb)
          replace KQ := Lib.hid (KQ.out.new hb)
          replace HB := Lib.hid (below_trans HB.out hb (Nat.le_refl _))
          clear hb
          have lKA : w2.heap.size < w11.heap.size := KA.out.lt
          have lKB : (w2.heap.size + 1) < w11.heap.size := KB.out.lt
          have lKR : w6.heap.size < w11.heap.size := KR.out.lt
          have lKQ : (w6.heap.size + 1) < w11.heap.size := KQ.out.lt
          have kKR0 := KR.out.at_ (j := 0) rfl
          have kKR1 := KR.out.at_ (j := 1) rfl
          have kKR2 := KR.out.at_ (j := 2) rfl
          have kKR3 := KR.out.at_ (j := 3) rfl
          have kKR4 := KR.out.at_ (j := 4) rfl
          have kKR5 := KR.out.at_ (j := 5) rfl
          have kKR6 := KR.out.at_ (j := 6) rfl
          have kKR7 := KR.out.at_ (j := 7) rfl
          have kKQ0 := KQ.out.at_ (j := 0) rfl
          have kKQ1 := KQ.out.at_ (j := 1) rfl
          have kKQ2 := KQ.out.at_ (j := 2) rfl
          go_wp2_with fail
          clear kKR0 kKR1 kKR2 kKR3 kKR4 kKR5 kKR6 kKR7 kKQ0 kKQ1 kKQ2
          refine Calls.mono (mat_eq ⟨r.f2, r.f3⟩ ⟨p.f0, p.f1⟩ _ A3 _) ?_
          rintro e w12 ⟨rfl, hb⟩
          replace KA := Lib.hid (KA.out.new hb)
          replace KB := Lib.hid (KB.out.new hb)
          replace KR := Lib.hid (KR.out.new hb)
          replace KQ := Lib.hid (KQ.out.new hb)
          replace HB := Lib.hid (below_trans HB.out hb (Nat.le_refl _))
          clear hb
          have lKA : w2.heap.size < w12.heap.size := KA.out.lt
          have lKB : (w2.heap.size + 1) < w12.heap.size := KB.out.lt
          have lKR : w6.heap.size < w12.heap.size := KR.out.lt
          have lKQ : (w6.heap.size + 1) < w12.heap.size := KQ.out.lt
          go_wp2_with fail
          go_meet
          case rel => exact ⟨rfl, KA, KB, KR, KQ, HB⟩
      case rest =>
        obtain ⟨rfl, KA, KB, KR, KQ, HB⟩ := hcut
        have lKA : w2.heap.size < wc.heap.size := KA.out.lt
        have lKB : (w2.heap.size + 1) < wc.heap.size := KB.out.lt
        have lKR : w6.heap.size < wc.heap.size := KR.out.lt
        have lKQ : (w6.heap.size + 1) < wc.heap.size := KQ.out.lt
        go_upto_region 9 with fail
        try simp only [Act.put]
        go_cut [88] (fun s88 wx => s88 = .bool false ∧ Hid (BoxAt wx w2.heap.size 28 #[.int .i64 a.f0, .int .i64 a.f1, .int .i64 a.f2, .int .i64 a.f3, .int .i64 a.f4, .int .i64 a.f5, .int .i64 a.f6, .int .i64 a.f7]) ∧ Hid (BoxAt wx (w2.heap.size + 1) 28 #[.int .i64 b.f0, .int .i64 b.f1, .int .i64 b.f2, .int .i64 b.f3, .int .i64 b.f4, .int .i64 b.f5, .int .i64 b.f6, .int .i64 b.f7]) ∧ Hid (BoxAt wx w6.heap.size 28 #[.int .i64 r.f0, .int .i64 r.f1, .int .i64 r.f2, .int .i64 r.f3, .int .i64 r.f4, .int .i64 r.f5, .int .i64 r.f6, .int .i64 r.f7]) ∧ Hid (BoxAt wx (w6.heap.size + 1) 33 #[.int .i64 p.f0, .int .i64 p.f1, .int .i64 p.f2]) ∧ Hid (Below w.heap.size w wx))
        case first =>
          have kKA0 := KA.out.at_ (j := 0) rfl
          have kKA1 := KA.out.at_ (j := 1) rfl
          have kKA2 := KA.out.at_ (j := 2) rfl
          have kKA3 := KA.out.at_ (j := 3) rfl
          have kKA4 := KA.out.at_ (j := 4) rfl
          have kKA5 := KA.out.at_ (j := 5) rfl
          have kKA6 := KA.out.at_ (j := 6) rfl
          have kKA7 := KA.out.at_ (j := 7) rfl
          have kKB0 := KB.out.at_ (j := 0) rfl
          have kKB1 := KB.out.at_ (j := 1) rfl
          have kKB2 := KB.out.at_ (j := 2) rfl
          have kKB3 := KB.out.at_ (j := 3) rfl
          have kKB4 := KB.out.at_ (j := 4) rfl
          have kKB5 := KB.out.at_ (j := 5) rfl
          have kKB6 := KB.out.at_ (j := 6) rfl
          have kKB7 := KB.out.at_ (j := 7) rfl
          have kKR0 := KR.out.at_ (j := 0) rfl
          have kKR1 := KR.out.at_ (j := 1) rfl
          have kKR2 := KR.out.at_ (j := 2) rfl
          have kKR3 := KR.out.at_ (j := 3) rfl
          have kKR4 := KR.out.at_ (j := 4) rfl
          have kKR5 := KR.out.at_ (j := 5) rfl
          have kKR6 := KR.out.at_ (j := 6) rfl
          have kKR7 := KR.out.at_ (j := 7) rfl
          go_wp2_with fail
          clear kKA0 kKA1 kKA2 kKA3 kKA4 kKA5 kKA6 kKA7 kKB0 kKB1 kKB2 kKB3 kKB4 kKB5 kKB6 kKB7 kKR0 kKR1 kKR2 kKR3 kKR4 kKR5 kKR6 kKR7
          refine Calls.mono (isb_eq a b _ E1 _) ?_
          rintro e w10 ⟨rfl, hb⟩
          replace KA := Lib.hid (KA.out.new hb)
          replace KB := Lib.hid (KB.out.new hb)
          replace KR := Lib.hid (KR.out.new hb)
          replace KQ := Lib.hid (KQ.out.new hb)
          replace HB := Lib.hid (below_trans HB.out hb (Nat.le_refl _))
          clear hb
          have lKA : w2.heap.size < w10.heap.size := KA.out.lt
          have lKB : (w2.heap.size + 1) < w10.heap.size := KB.out.lt
          have lKR : w6.heap.size < w10.heap.size := KR.out.lt
          have lKQ : (w6.heap.size + 1) < w10.heap.size := KQ.out.lt
          cases v1 with
          | false =>
            go_wp2_with fail
            go_meet
            case rel => exact ⟨rfl, KA, KB, KR, KQ, HB⟩
          | true =>
            have kKA0 := KA.out.at_ (j := 0) rfl
            have kKA1 := KA.out.at_ (j := 1) rfl
            have kKA2 := KA.out.at_ (j := 2) rfl
            have kKA3 := KA.out.at_ (j := 3) rfl
            have kKA4 := KA.out.at_ (j := 4) rfl
            have kKA5 := KA.out.at_ (j := 5) rfl
            have kKA6 := KA.out.at_ (j := 6) rfl
            have kKA7 := KA.out.at_ (j := 7) rfl
            have kKB0 := KB.out.at_ (j := 0) rfl
            have kKB1 := KB.out.at_ (j := 1) rfl
            have kKB2 := KB.out.at_ (j := 2) rfl
            have kKB3 := KB.out.at_ (j := 3) rfl
            have kKB4 := KB.out.at_ (j := 4) rfl
            have kKB5 := KB.out.at_ (j := 5) rfl
            have kKB6 := KB.out.at_ (j := 6) rfl
            have kKB7 := KB.out.at_ (j := 7) rfl
            have kKR0 := KR.out.at_ (j := 0) rfl
            have kKR1 := KR.out.at_ (j := 1) rfl
            have kKR2 := KR.out.at_ (j := 2) rfl
            have kKR3 := KR.out.at_ (j := 3) rfl
            have kKR4 := KR.out.at_ (j := 4) rfl
            have kKR5 := KR.out.at_ (j := 5) rfl
            have kKR6 := KR.out.at_ (j := 6) rfl
            have kKR7 := KR.out.at_ (j := 7) rfl
            go_wp2_with fail
            clear kKA0 kKA1 kKA2 kKA3 kKA4 kKA5 kKA6 kKA7 kKB0 kKB1 kKB2 kKB3 kKB4 kKB5 kKB6 kKB7 kKR0 kKR1 kKR2 kKR3 kKR4 kKR5 kKR6 kKR7
            refine Calls.mono (isb_eq b r _ E4 _) ?_
            rintro e w11 ⟨rfl, hb⟩
            replace KA := Lib.hid (KA.out.new hb)
            replace KB := Lib.hid (KB.out.new hb)
            replace KR := Lib.hid (KR.out.new hb)
            replace KQ := Lib.hid (KQ.out.new hb)
            replace HB := Lib.hid (below_trans HB.out hb (Nat.le_refl _))
            clear hb
            have lKA : w2.heap.size < w11.heap.size := KA.out.lt
            have lKB : (w2.heap.size + 1) < w11.heap.size := KB.out.lt
            have lKR : w6.heap.size < w11.heap.size := KR.out.lt
            have lKQ : (w6.heap.size + 1) < w11.heap.size := KQ.out.lt
            cases v4 with
            | false =>
              go_wp2_with fail
              go_meet
              case rel => exact ⟨rfl, KA, KB, KR, KQ, HB⟩
            | true =>
              have kKA0 := KA.out.at_ (j := 0) rfl
              have kKA1 := KA.out.at_ (j := 1) rfl
              have kKA2 := KA.out.at_ (j := 2) rfl
              have kKA3 := KA.out.at_ (j := 3) rfl
              have kKA4 := KA.out.at_ (j := 4) rfl
              have kKA5 := KA.out.at_ (j := 5) rfl
              have kKA6 := KA.out.at_ (j := 6) rfl
              have kKA7 := KA.out.at_ (j := 7) rfl
              have kKB0 := KB.out.at_ (j := 0) rfl
              have kKB1 := KB.out.at_ (j := 1) rfl
              have kKB2 := KB.out.at_ (j := 2) rfl
              have kKB3 := KB.out.at_ (j := 3) rfl
              have kKB4 := KB.out.at_ (j := 4) rfl
              have kKB5 := KB.out.at_ (j := 5) rfl
              have kKB6 := KB.out.at_ (j := 6) rfl
              have kKB7 := KB.out.at_ (j := 7) rfl
              have kKR0 := KR.out.at_ (j := 0) rfl
              have kKR1 := KR.out.at_ (j := 1) rfl
              have kKR2 := KR.out.at_ (j := 2) rfl
              have kKR3 := KR.out.at_ (j := 3) rfl
              have kKR4 := KR.out.at_ (j := 4) rfl
              have kKR5 := KR.out.at_ (j := 5) rfl
              have kKR6 := KR.out.at_ (j := 6) rfl
              have kKR7 := KR.out.at_ (j := 7) rfl
              go_wp2_with fail
              clear kKA0 kKA1 kKA2 kKA3 kKA4 kKA5 kKA6 kKA7 kKB0 kKB1 kKB2 kKB3 kKB4 kKB5 kKB6 kKB7 kKR0 kKR1 kKR2 kKR3 kKR4 kKR5 kKR6 kKR7
              refine Calls.mono (isb_eq a r _ (before_trans a b r E1 E4) _) ?_
              rintro e w12 ⟨rfl, hb⟩
              replace KA := Lib.hid (KA.out.new hb)
              replace KB := Lib.hid (KB.out.new hb)
              replace KR := Lib.hid (KR.out.new hb)
              replace KQ := Lib.hid (KQ.out.new hb)
              replace HB := Lib.hid (below_trans HB.out hb (Nat.le_refl _))
              clear hb
              have lKA : w2.heap.size < w12.heap.size := KA.out.lt
              have lKB : (w2.heap.size + 1) < w12.heap.size := KB.out.lt
              have lKR : w6.heap.size < w12.heap.size := KR.out.lt
              have lKQ : (w6.heap.size + 1) < w12.heap.size := KQ.out.lt
              go_wp2_with fail
              go_meet
              case rel => exact ⟨rfl, KA, KB, KR, KQ, HB⟩
        case rest =>
          obtain ⟨rfl, KA, KB, KR, KQ, HB⟩ := hcut
          have lKA : w2.heap.size < wc.heap.size := KA.out.lt
          have lKB : (w2.heap.size + 1) < wc.heap.size := KB.out.lt
          have lKR : w6.heap.size < wc.heap.size := KR.out.lt
          have lKQ : (w6.heap.size + 1) < wc.heap.size := KQ.out.lt
          go_wp2_with fail
          refine Calls.mono (drawRO_any n0 c0 A0 _ (by omega) (bytes_below M0.out HB.out)) ?_
          rintro e w11 ⟨A3, c3, l, y, rfl, hl, hu, hy0, hy1, hr, hb⟩
          replace KA := Lib.hid (KA.out.new hb)
          replace KB := Lib.hid (KB.out.new hb)
          replace KR := Lib.hid (KR.out.new hb)
          replace KQ := Lib.hid (KQ.out.new hb)
          replace HB := Lib.hid (below_trans HB.out hb (Nat.le_refl _))
          clear hb
          have lKA : w2.heap.size < w11.heap.size := KA.out.lt
          have lKB : (w2.heap.size + 1) < w11.heap.size := KB.out.lt
          have lKR : w6.heap.size < w11.heap.size := KR.out.lt
          have lKQ : (w6.heap.size + 1) < w11.heap.size := KQ.out.lt
          have HR := Lib.hid hr
          have HU := Lib.hid (show cRuleOk l from hu)
          have WY := Lib.hid (show (Lit.int .i64 y).wf = true from WalkArith.wf_i64 (by constructor <;> omega))
          clear hr hu
          go_wp2_with fail
          refine Calls.mono (impl_RulesOf l A3 l.length c3 _ _ y _ (by omega) HR.out HU WY.out) ?_
          rintro e w12 ⟨A4, c4, rfl, hF, hb⟩
          replace KA := Lib.hid (KA.out.new hb)
          replace KB := Lib.hid (KB.out.new hb)
          replace KR := Lib.hid (KR.out.new hb)
          replace KQ := Lib.hid (KQ.out.new hb)
          replace HB := Lib.hid (below_trans HB.out hb (Nat.le_refl _))
          clear hb
          have lKA : w2.heap.size < w12.heap.size := KA.out.lt
          have lKB : (w2.heap.size + 1) < w12.heap.size := KB.out.lt
          have lKR : w6.heap.size < w12.heap.size := KR.out.lt
          have lKQ : (w6.heap.size + 1) < w12.heap.size := KQ.out.lt
          have HF := Lib.hid hF.rd
          have HP := Lib.hid (show ∀ x ∈ l.filter (fun x => x.f0 == y), x.f0 = y from fun x hx => by simpa using (List.mem_filter.1 hx).2)
          clear hF HR HU WY
          have HM := Lib.hid (List.length_filter_le (fun x : TRule => x.f0 == y) l)
          generalize (l.filter fun x => x.f0 == y) = m at HF HP HM ⊢
          go_wp2_with fail
          go_loopg [10] m.length (fun gg i wr => ∃ k : Nat, k ≤ m.length ∧ m.length - k ≤ gg ∧ i = .int .i64 k ∧ wr = w12)
          case atStart => exact ⟨0, Nat.zero_le _, by omega, rfl, rfl⟩
          case round =>
            obtain ⟨k, hk, hg, rfl, rfl⟩ := hrel
            by_cases hlt : k < m.length
            · obtain ⟨b1, off, x, rfl, _, _, hz, hc⟩ := rd_elem TRule.len HF.out rfl hlt
              have c0 := hc 0 _ rfl
              simp only [Nat.add_zero] at c0
              have hx := HP.out x (List.mem_of_getElem? hz)
              rw [hx] at c0
              have hm : m.length ≤ 8 := by have := HM.out; omega
              clear hz hc
              go_wp2_with fail
              go_roundg (m.length - (k + 1))
              case measure => omega
              case rel => exact ⟨k + 1, by omega, by omega, by go_num, rfl⟩
            · obtain rfl : k = m.length := by omega
              have kKR0 := KR.out.at_ (j := 0) rfl
              have kKR1 := KR.out.at_ (j := 1) rfl
              have kKR2 := KR.out.at_ (j := 2) rfl
              have kKR3 := KR.out.at_ (j := 3) rfl
              have kKR4 := KR.out.at_ (j := 4) rfl
              have kKR5 := KR.out.at_ (j := 5) rfl
              have kKR6 := KR.out.at_ (j := 6) rfl
              have kKR7 := KR.out.at_ (j := 7) rfl
              go_wp2_with fail
              clear kKR0 kKR1 kKR2 kKR3 kKR4 kKR5 kKR6 kKR7
              refine Calls.mono (isr_eq r _ E5 _) ?_
              rintro e w13 ⟨rfl, hb⟩
              replace KA := Lib.hid (KA.out.new hb)
              replace KB := Lib.hid (KB.out.new hb)
              replace KR := Lib.hid (KR.out.new hb)
              replace KQ := Lib.hid (KQ.out.new hb)
              replace HB := Lib.hid (below_trans HB.out hb (Nat.le_refl _))
              clear hb
              have lKA : w2.heap.size < w13.heap.size := KA.out.lt
              have lKB : (w2.heap.size + 1) < w13.heap.size := KB.out.lt
              have lKR : w6.heap.size < w13.heap.size := KR.out.lt
              have lKQ : (w6.heap.size + 1) < w13.heap.size := KQ.out.lt
              cases v5 with
              | false =>
                go_wp2_with fail
                go_ret
                exact ⟨rfl, HB.out⟩
              | true =>
                have HN := rule_nm E5
                have kKR0 := KR.out.at_ (j := 0) rfl
                have kKR1 := KR.out.at_ (j := 1) rfl
                have kKR2 := KR.out.at_ (j := 2) rfl
                have kKR3 := KR.out.at_ (j := 3) rfl
                have kKR4 := KR.out.at_ (j := 4) rfl
                have kKR5 := KR.out.at_ (j := 5) rfl
                have kKR6 := KR.out.at_ (j := 6) rfl
                have kKR7 := KR.out.at_ (j := 7) rfl
                go_wp2_with fail
                clear kKR0 kKR1 kKR2 kKR3 kKR4 kKR5 kKR6 kKR7
                refine Calls.mono (impl_ActionName r.f5 _) ?_
                rintro e w14 ⟨rfl, hb⟩
                replace KA := Lib.hid (KA.out.new hb)
                replace KB := Lib.hid (KB.out.new hb)
                replace KR := Lib.hid (KR.out.new hb)
                replace KQ := Lib.hid (KQ.out.new hb)
                replace HB := Lib.hid (below_trans HB.out hb (Nat.le_refl _))
                clear hb
                have lKA : w2.heap.size < w14.heap.size := KA.out.lt
                have lKB : (w2.heap.size + 1) < w14.heap.size := KB.out.lt
                have lKR : w6.heap.size < w14.heap.size := KR.out.lt
                have lKQ : (w6.heap.size + 1) < w14.heap.size := KQ.out.lt
                generalize mActName r.f5 = nm at HN ⊢
                go_wp2_with fail
                go_ret
                exact ⟨rfl, HB.out⟩
  · have g : decide ((1048576 : Int) < n0) = true := by simp; omega
    go_enter Try.func3, Try.ntmps3
    go_wp2_with fail
    refine (big_any n0 c0 A0 _ w0).mono ?_
    rintro e w1 ⟨rfl, rfl⟩
    rw [g]
    go_wp2_with fail
    go_ret
    exact ⟨rfl, Below.refl _ _⟩

set_option maxRecDepth 100000 in
theorem lifted (os : Os) (started : os.Started) (H : Type) (enc : TypeId × Value → H) :
    ReturnsInHanded {} Try.checked os 3 .any (Rows.fnRulesSpec.pre6 enc Try.prog Try.f3 Rows.fnRulesRow.domain false) (Rows.fnRulesSpec.post enc Try.prog Try.f3 false true false false) := by
  refine law_lifted Try.func3 (by kernel_rfl) rfl rfl (by kernel_rfl) os started
    (ChangeSpec.witness6 (enc := enc) (C := Try.checked) false ⟨#[], #[.slice none 0 0], []⟩ 8 (by kernel_rfl) (by kernel_rfl) (by kernel_rfl) (by kernel_rfl)) ?_
  intro W base args ds p hval hA hlt
  rw [Try.params3] at hA hval
  obtain ⟨v0, vs0, d0, ds0, p0, q0, hargs, rfl, rfl, h0, r0⟩ := trodAll_cons hA
  obtain ⟨rfl, rfl, rfl⟩ := trodAll_nil r0
  obtain rfl : args = #[v0] := by cases args; simp_all
  obtain ⟨A0, n0, c0, rfl, w0, m0⟩ := open_bytes (hval 0 22 v0 rfl rfl) h0 (fun x hx => hlt x (by simp [hx]))
  exact ⟨⟨rfl, rfl, rfl⟩, walk A0 n0 c0 w0 W m0⟩

theorem over : Rows.fnRulesRow.holds Try.pinned (OpenSpec.ofChange Rows.fnRulesSpec) :=
  OpenClaim.holds_of_wide 3 Try.f3 rfl rfl rfl rfl rfl rfl rfl ⟨rfl, rfl, rfl, rfl, rfl⟩ rfl rfl rfl rfl rfl (by kernel_rfl) Try.func3 (by kernel_rfl)
    (of_decide_eq_true (by kernel_rfl)) (by unfold Func.isWrapper; first | (rw [if_pos (by decide +kernel)]; kernel_rfl) | (rw [if_neg (by decide +kernel)]; exact ⟨rfl, rfl⟩))
    (fun os started H enc _ => lifted os started H enc)

theorem proved : Rows.FnRulesSaid := over
#print axioms proved
end Go.Proofs.Ytlnmgfbfpjfddaa.fnRules
