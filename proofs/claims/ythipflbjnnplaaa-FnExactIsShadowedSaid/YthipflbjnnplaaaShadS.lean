/- IsShadowed and ShadowedRules, of the model and of the program. -/
import Derived.Test.YthipflbjnnplaaaShadI
import Derived.Test.YthipflbjnnplaaaIxI
import Derived.Test.YthipflbjnnplaaaIn
import Derived.Handy
import Derived.Deep.RegionHeld3
import Derived.Deep.LoopGhost
import Derived.IntWalk
namespace Go.Proofs.Ythipflbjnnplaaa
open Go Go.ChangeShapes Go.WideShapes Go.ChangeAt Go.RowKit Go.Lib
set_option linter.unusedVariables false
set_option linter.unusedSimpArgs false
set_option maxRecDepth 100000
def mISd (l : List TRule) (i : Int) : Bool := inR i 0 ((l.length : Int) - 1) && mShI l i
theorem mShR_any (l : List TRule) (i : Int) : ((mShR l).any fun z => decide (i = z)) = mISd l i := by
  rw [Bool.eq_iff_iff, List.any_eq_true]
  unfold mISd mShR
  rw [Bool.and_eq_true, inR_true]
  constructor
  · rintro ⟨z, hz, he⟩
    obtain rfl := of_decide_eq_true he
    rw [List.mem_filter] at hz
    obtain ⟨k, hk, e⟩ := rangeI_mem hz.1
    exact ⟨⟨by omega, by omega⟩, hz.2⟩
  · rintro ⟨⟨h1, h2⟩, h3⟩
    refine ⟨i, ?_, decide_eq_true rfl⟩
    rw [List.mem_filter]
    refine ⟨?_, h3⟩
    have hi : i.toNat < l.length := by omega
    have := List.mem_of_getElem? (rangeI_get 0 hi)
    rwa [show (0 : Int) + (i.toNat : Int) = i by omega] at this
set_option maxHeartbeats 8000000 in
theorem spec_IsShadowed (l : List TRule) (A : Option Addr) (n c lo hi : Nat) (i : Int) (w : World) (h0 : n ≤ 1048576) (hr : Rd w lo hi 8 A n (cRule l)) (b0 : Hid (cRuleOk l)) :
    Calls Try.prog 64 #[.slice A n c, .int .i64 i] w (Says (.bool (mISd l i)) w) := by
  have HL := Lib.hid (rd_len TRule.len hr (by decide))
  have HR := Lib.hid hr
  clear hr
  have hwr : IntKind.i64.wrap ((n : Int) - 1) = (n : Int) - 1 := IntWalk.i64_in _ (by omega)
  by_cases hi : 0 ≤ i ∧ i ≤ (n : Int) - 1
  · have hI : inR i 0 ((n : Int) - 1) = true := inR_true.2 hi
    have CI := Lib.hid (fun W => (by have := spec_in i 0 ((n : Int) - 1) W; rwa [hI] at this : Calls Try.prog 84 #[.int .i64 i, .int .i64 0, .int .i64 ((n : Int) - 1)] W fun e w' => e = .returned (.bool true) ∧ W = w'))
    have hM : mISd l i = mShI l i := by unfold mISd; rw [HL.out, hI, Bool.true_and]
    obtain ⟨k, rfl⟩ : ∃ k : Nat, i = (k : Int) := ⟨i.toNat, by omega⟩
    have hlt : k < n := by omega
    obtain ⟨b, off, x, rfl, _, _, hz, hc⟩ := rd_elem TRule.len HR.out HL.out hlt
    have a0 : w.cell? ⟨b, off + k * 8, none⟩ = _ := hc 0 _ rfl
    have a1 := hc 1 _ rfl
    have a2 := hc 2 _ rfl
    have a3 := hc 3 _ rfl
    have a4 := hc 4 _ rfl
    have a5 := hc 5 _ rfl
    have a6 := hc 6 _ rfl
    have a7 := hc 7 _ rfl
    have hM2 : mShI l (k : Int) = l.any (fun r => mShad r x) := by simp [mShI, hz]
    rw [hM, hM2]
    clear hM hM2 hz hc hI hi
    have CR := fun W => spec_IsRule x W
    have hX : ∀ y, mShad y x = (mIsRule y && mIsRule x && mIsBefore y x && mIsNarrower ⟨x.f2, x.f3⟩ ⟨y.f2, y.f3⟩ && mTakes 0 y.f4 x.f4) := fun y => rfl
    generalize mIsRule x = rx at CR hX
    replace CR := Lib.hid CR
    cases rx with
    | false =>
      have HE := Lib.hid (show l.any (fun r => mShad r x) = false by
        rw [List.any_eq_false]
        intro y _
        rw [hX y]
        simp)
      clear hX
      go_enter Try.func64, Try.ntmps64
      go_wp2_with (first | (go_at_call 84; refine Calls.mono (CI.out _) ?_; rintro e w1 ⟨rfl, rfl⟩) | (go_at_call 88; refine Calls.mono (CR.out _) ?_; rintro e w1 ⟨rfl, hb1⟩; have HB1 := Lib.hid hb1; clear hb1))
      go_ret
      exact ⟨by rw [HE.out]; rfl, HB1.out⟩
    | true =>
      have HX := Lib.hid hX
      clear hX
      go_enter Try.func64, Try.ntmps64
      go_wp2_with (first | (go_at_call 84; refine Calls.mono (CI.out _) ?_; rintro e w1 ⟨rfl, rfl⟩) | (go_at_call 88; refine Calls.mono (CR.out _) ?_; rintro e w1 ⟨rfl, hb1⟩; have HB1 := Lib.hid hb1; clear hb1))
      go_loopg [5] n (fun gg j wr => ∃ m : Nat, m ≤ n ∧ n - m ≤ gg ∧ j = .int .i64 m ∧ Hid ((l.take m).any (fun r => mShad r x) = false) ∧ Hid (Below w.heap.size w wr))
      case atStart => exact ⟨0, Nat.zero_le _, by omega, rfl, Lib.hid (by simp), HB1⟩
      case round =>
        obtain ⟨m, hm, hgm, rfl, HF, HB⟩ := hrel
        clear HB1
        by_cases hlm : m < n
        · obtain ⟨b2, off2, y, hA2, _, _, hz2, hc2⟩ := rd_elem TRule.len (HR.out.new HB.out) HL.out hlm
          cases hA2
          have d0 : wr.cell? ⟨b, off + m * 8, none⟩ = _ := hc2 0 _ rfl
          have d1 := hc2 1 _ rfl
          have d2 := hc2 2 _ rfl
          have d3 := hc2 3 _ rfl
          have d4 := hc2 4 _ rfl
          have d5 := hc2 5 _ rfl
          have d6 := hc2 6 _ rfl
          have d7 := hc2 7 _ rfl
          have c0 := cell_nw HB.out a0
          have c1 := cell_nw HB.out a1
          have c2 := cell_nw HB.out a2
          have c3 := cell_nw HB.out a3
          have c4 := cell_nw HB.out a4
          have c5 := cell_nw HB.out a5
          have c6 := cell_nw HB.out a6
          have c7 := cell_nw HB.out a7
          have HT := Lib.hid (fun (h : mShad y x = true) => any_hit (p := fun r => mShad r x) hz2 h)
          have HN := Lib.hid (fun (h : mShad y x = false) => any_step (p := fun r => mShad r x) HF.out hz2 h)
          have C0 := fun W => spec_IsRule y W
          have C1 := fun W => spec_IsBefore y x W
          have C2 := fun W => spec_IsNarrower ⟨x.f2, x.f3⟩ ⟨y.f2, y.f3⟩ W
          have HQ := HX.out y
          clear hz2 hc2
          generalize mIsRule y = r0 at C0 HQ
          generalize mIsBefore y x = r1 at C1 HQ
          generalize mIsNarrower ⟨x.f2, x.f3⟩ ⟨y.f2, y.f3⟩ = r2 at C2 HQ
          replace C0 := Lib.hid C0
          replace C1 := Lib.hid C1
          replace C2 := Lib.hid C2
          replace HQ := Lib.hid HQ
          go_wp2_with fail
          refine wp_region_held_drew (S := fun w' => Below wr.heap.size wr w') (by kernel_rfl) ?_ (fun hHeld => ?_)
          · exact ((Below.refl _ _).drew)
          refine wpAnyH_take (i := 0) (oi := ⟨some 26, _, _, _, _, _⟩) (v := ?_) rfl (by kernel_rfl) (by kernel_rfl) (by kernel_rfl) (fun _ _ _ h => h) (Or.inl ⟨by kernel_rfl, ?_⟩) hHeld ?_
          rotate_left
          focus (intro W hS; have c0' := cell_nw hS c0; have c1' := cell_nw hS c1; have c2' := cell_nw hS c2; have c3' := cell_nw hS c3; have c4' := cell_nw hS c4; have c5' := cell_nw hS c5; have c6' := cell_nw hS c6; have c7' := cell_nw hS c7; have d0' := cell_nw hS d0; have d1' := cell_nw hS d1; have d2' := cell_nw hS d2; have d3' := cell_nw hS d3; have d4' := cell_nw hS d4; have d5' := cell_nw hS d5; have d6' := cell_nw hS d6; have d7' := cell_nw hS d7; clear hS; first | (go_simp; done) | (go_simp; with_reducible rfl))
          try simp only [Act.put, List.setIfInBounds_toArray, List.set_cons_zero, List.set_cons_succ]
          refine wpAnyH_take (i := 1) (oi := ⟨some 27, _, _, _, _, _⟩) (v := ?_) rfl (by kernel_rfl) (by kernel_rfl) (by kernel_rfl) (fun _ _ _ h => h) (Or.inl ⟨by kernel_rfl, ?_⟩) hHeld ?_
          rotate_left
          focus (intro W hS; have c0' := cell_nw hS c0; have c1' := cell_nw hS c1; have c2' := cell_nw hS c2; have c3' := cell_nw hS c3; have c4' := cell_nw hS c4; have c5' := cell_nw hS c5; have c6' := cell_nw hS c6; have c7' := cell_nw hS c7; have d0' := cell_nw hS d0; have d1' := cell_nw hS d1; have d2' := cell_nw hS d2; have d3' := cell_nw hS d3; have d4' := cell_nw hS d4; have d5' := cell_nw hS d5; have d6' := cell_nw hS d6; have d7' := cell_nw hS d7; clear hS; first | (go_simp; done) | (go_simp; with_reducible rfl))
          try simp only [Act.put, List.setIfInBounds_toArray, List.set_cons_zero, List.set_cons_succ]
          refine wpAnyH_take (i := 2) (oi := ⟨some 28, _, _, _, _, _⟩) (v := ?_) rfl (by kernel_rfl) (by kernel_rfl) (by kernel_rfl) (fun _ _ _ h => h) (Or.inl ⟨by kernel_rfl, ?_⟩) hHeld ?_
          rotate_left
          focus (intro W hS; have c0' := cell_nw hS c0; have c1' := cell_nw hS c1; have c2' := cell_nw hS c2; have c3' := cell_nw hS c3; have c4' := cell_nw hS c4; have c5' := cell_nw hS c5; have c6' := cell_nw hS c6; have c7' := cell_nw hS c7; have d0' := cell_nw hS d0; have d1' := cell_nw hS d1; have d2' := cell_nw hS d2; have d3' := cell_nw hS d3; have d4' := cell_nw hS d4; have d5' := cell_nw hS d5; have d6' := cell_nw hS d6; have d7' := cell_nw hS d7; clear hS; first | (go_simp; done) | (go_simp; with_reducible rfl))
          try simp only [Act.put, List.setIfInBounds_toArray, List.set_cons_zero, List.set_cons_succ]
          refine wpAnyH_take (i := 3) (oi := ⟨some 29, _, _, _, _, _⟩) (v := ?_) rfl (by kernel_rfl) (by kernel_rfl) (by kernel_rfl) (fun _ _ _ h => h) (Or.inl ⟨by kernel_rfl, ?_⟩) hHeld ?_
          rotate_left
          focus (intro W hS; have c0' := cell_nw hS c0; have c1' := cell_nw hS c1; have c2' := cell_nw hS c2; have c3' := cell_nw hS c3; have c4' := cell_nw hS c4; have c5' := cell_nw hS c5; have c6' := cell_nw hS c6; have c7' := cell_nw hS c7; have d0' := cell_nw hS d0; have d1' := cell_nw hS d1; have d2' := cell_nw hS d2; have d3' := cell_nw hS d3; have d4' := cell_nw hS d4; have d5' := cell_nw hS d5; have d6' := cell_nw hS d6; have d7' := cell_nw hS d7; clear hS; first | (go_simp; done) | (go_simp; with_reducible rfl))
          try simp only [Act.put, List.setIfInBounds_toArray, List.set_cons_zero, List.set_cons_succ]
          refine wpAnyH_ready (rs := [4]) (by kernel_rfl) (by simp) ?_
          refine AllReadyH.cons (o := ⟨some 30, _, _, _, _, _⟩) rfl (fun K hK => ?_) AllReadyH.nil
          go_simp
          refine Calls.mono (C0.out _) ?_
          rintro e x1 ⟨rfl, hb1⟩
          refine hK.out _ _ (below_trans hHeld hb1 (Nat.le_refl _)) (fun hHeld' => ?_)
          clear hK K hHeld hb1
          have hHeld := hHeld'
          clear hHeld'
          try simp only [Act.put, List.setIfInBounds_toArray, List.set_cons_zero, List.set_cons_succ]
          cases r0
          · skip
            refine wpAnyH_take (i := 5) (oi := ⟨some 31, _, _, _, _, _⟩) (v := ?_) rfl (by kernel_rfl) (by kernel_rfl) (by kernel_rfl) (fun _ _ _ h => h) (Or.inl ⟨by kernel_rfl, ?_⟩) hHeld ?_
            rotate_left
            focus (intro W hS; have c0' := cell_nw hS c0; have c1' := cell_nw hS c1; have c2' := cell_nw hS c2; have c3' := cell_nw hS c3; have c4' := cell_nw hS c4; have c5' := cell_nw hS c5; have c6' := cell_nw hS c6; have c7' := cell_nw hS c7; have d0' := cell_nw hS d0; have d1' := cell_nw hS d1; have d2' := cell_nw hS d2; have d3' := cell_nw hS d3; have d4' := cell_nw hS d4; have d5' := cell_nw hS d5; have d6' := cell_nw hS d6; have d7' := cell_nw hS d7; clear hS; first | (go_simp; done) | (go_simp; with_reducible rfl))
            try simp only [Act.put, List.setIfInBounds_toArray, List.set_cons_zero, List.set_cons_succ]
            refine wpAnyH_take (i := 6) (oi := ⟨some 32, _, _, _, _, _⟩) (v := undef) rfl (by kernel_rfl) (by kernel_rfl) (by kernel_rfl) (fun _ _ _ h => h) (Or.inr ⟨by kernel_rfl, rfl⟩) hHeld ?_
            try simp only [Act.put, List.setIfInBounds_toArray, List.set_cons_zero, List.set_cons_succ]
            refine wpAnyH_take (i := 7) (oi := ⟨some 33, _, _, _, _, _⟩) (v := undef) rfl (by kernel_rfl) (by kernel_rfl) (by kernel_rfl) (fun _ _ _ h => h) (Or.inr ⟨by kernel_rfl, rfl⟩) hHeld ?_
            try simp only [Act.put, List.setIfInBounds_toArray, List.set_cons_zero, List.set_cons_succ]
            refine wpAnyH_take (i := 8) (oi := ⟨some 34, _, _, _, _, _⟩) (v := undef) rfl (by kernel_rfl) (by kernel_rfl) (by kernel_rfl) (fun _ _ _ h => h) (Or.inr ⟨by kernel_rfl, rfl⟩) hHeld ?_
            try simp only [Act.put, List.setIfInBounds_toArray, List.set_cons_zero, List.set_cons_succ]
            refine wpAnyH_take (i := 9) (oi := ⟨some 35, _, _, _, _, _⟩) (v := undef) rfl (by kernel_rfl) (by kernel_rfl) (by kernel_rfl) (fun _ _ _ h => h) (Or.inr ⟨by kernel_rfl, rfl⟩) hHeld ?_
            try simp only [Act.put, List.setIfInBounds_toArray, List.set_cons_zero, List.set_cons_succ]
            refine wpAnyH_take (i := 10) (oi := ⟨some 36, _, _, _, _, _⟩) (v := undef) rfl (by kernel_rfl) (by kernel_rfl) (by kernel_rfl) (fun _ _ _ h => h) (Or.inr ⟨by kernel_rfl, rfl⟩) hHeld ?_
            try simp only [Act.put, List.setIfInBounds_toArray, List.set_cons_zero, List.set_cons_succ]
            refine wpAnyH_take (i := 11) (oi := ⟨some 37, _, _, _, _, _⟩) (v := undef) rfl (by kernel_rfl) (by kernel_rfl) (by kernel_rfl) (fun _ _ _ h => h) (Or.inr ⟨by kernel_rfl, rfl⟩) hHeld ?_
            try simp only [Act.put, List.setIfInBounds_toArray, List.set_cons_zero, List.set_cons_succ]
            refine wpAnyH_take (i := 12) (oi := ⟨some 38, _, _, _, _, _⟩) (v := undef) rfl (by kernel_rfl) (by kernel_rfl) (by kernel_rfl) (fun _ _ _ h => h) (Or.inr ⟨by kernel_rfl, rfl⟩) hHeld ?_
            try simp only [Act.put, List.setIfInBounds_toArray, List.set_cons_zero, List.set_cons_succ]
            refine wpAnyH_take (i := 13) (oi := ⟨some 39, _, _, _, _, _⟩) (v := undef) rfl (by kernel_rfl) (by kernel_rfl) (by kernel_rfl) (fun _ _ _ h => h) (Or.inr ⟨by kernel_rfl, rfl⟩) hHeld ?_
            try simp only [Act.put, List.setIfInBounds_toArray, List.set_cons_zero, List.set_cons_succ]
            refine wpAnyH_take (i := 14) (oi := ⟨some 40, _, _, _, _, _⟩) (v := undef) rfl (by kernel_rfl) (by kernel_rfl) (by kernel_rfl) (fun _ _ _ h => h) (Or.inr ⟨by kernel_rfl, rfl⟩) hHeld ?_
            try simp only [Act.put, List.setIfInBounds_toArray, List.set_cons_zero, List.set_cons_succ]
            refine wpAnyH_take (i := 15) (oi := ⟨some 41, _, _, _, _, _⟩) (v := ?_) rfl (by kernel_rfl) (by kernel_rfl) (by kernel_rfl) (fun _ _ _ h => h) (Or.inl ⟨by kernel_rfl, ?_⟩) hHeld ?_
            rotate_left
            focus (intro W hS; have c0' := cell_nw hS c0; have c1' := cell_nw hS c1; have c2' := cell_nw hS c2; have c3' := cell_nw hS c3; have c4' := cell_nw hS c4; have c5' := cell_nw hS c5; have c6' := cell_nw hS c6; have c7' := cell_nw hS c7; have d0' := cell_nw hS d0; have d1' := cell_nw hS d1; have d2' := cell_nw hS d2; have d3' := cell_nw hS d3; have d4' := cell_nw hS d4; have d5' := cell_nw hS d5; have d6' := cell_nw hS d6; have d7' := cell_nw hS d7; clear hS; first | (go_simp; done) | (go_simp; with_reducible rfl))
            try simp only [Act.put, List.setIfInBounds_toArray, List.set_cons_zero, List.set_cons_succ]
            refine wpAnyH_take (i := 16) (oi := ⟨some 42, _, _, _, _, _⟩) (v := ?_) rfl (by kernel_rfl) (by kernel_rfl) (by kernel_rfl) (fun _ _ _ h => h) (Or.inl ⟨by kernel_rfl, ?_⟩) hHeld ?_
            rotate_left
            focus (intro W hS; have c0' := cell_nw hS c0; have c1' := cell_nw hS c1; have c2' := cell_nw hS c2; have c3' := cell_nw hS c3; have c4' := cell_nw hS c4; have c5' := cell_nw hS c5; have c6' := cell_nw hS c6; have c7' := cell_nw hS c7; have d0' := cell_nw hS d0; have d1' := cell_nw hS d1; have d2' := cell_nw hS d2; have d3' := cell_nw hS d3; have d4' := cell_nw hS d4; have d5' := cell_nw hS d5; have d6' := cell_nw hS d6; have d7' := cell_nw hS d7; clear hS; first | (go_simp; done) | (go_simp; with_reducible rfl))
            try simp only [Act.put, List.setIfInBounds_toArray, List.set_cons_zero, List.set_cons_succ]
            refine wpAnyH_take (i := 17) (oi := ⟨some 43, _, _, _, _, _⟩) (v := undef) rfl (by kernel_rfl) (by kernel_rfl) (by kernel_rfl) (fun _ _ _ h => h) (Or.inr ⟨by kernel_rfl, rfl⟩) hHeld ?_
            try simp only [Act.put, List.setIfInBounds_toArray, List.set_cons_zero, List.set_cons_succ]
            refine wpAnyH_take (i := 18) (oi := ⟨some 44, _, _, _, _, _⟩) (v := undef) rfl (by kernel_rfl) (by kernel_rfl) (by kernel_rfl) (fun _ _ _ h => h) (Or.inr ⟨by kernel_rfl, rfl⟩) hHeld ?_
            try simp only [Act.put, List.setIfInBounds_toArray, List.set_cons_zero, List.set_cons_succ]
            refine wpAnyH_take (i := 19) (oi := ⟨some 45, _, _, _, _, _⟩) (v := undef) rfl (by kernel_rfl) (by kernel_rfl) (by kernel_rfl) (fun _ _ _ h => h) (Or.inr ⟨by kernel_rfl, rfl⟩) hHeld ?_
            try simp only [Act.put, List.setIfInBounds_toArray, List.set_cons_zero, List.set_cons_succ]
            refine wpAnyH_take (i := 20) (oi := ⟨some 46, _, _, _, _, _⟩) (v := undef) rfl (by kernel_rfl) (by kernel_rfl) (by kernel_rfl) (fun _ _ _ h => h) (Or.inr ⟨by kernel_rfl, rfl⟩) hHeld ?_
            try simp only [Act.put, List.setIfInBounds_toArray, List.set_cons_zero, List.set_cons_succ]
            refine wpAnyH_take (i := 21) (oi := ⟨some 47, _, _, _, _, _⟩) (v := undef) rfl (by kernel_rfl) (by kernel_rfl) (by kernel_rfl) (fun _ _ _ h => h) (Or.inr ⟨by kernel_rfl, rfl⟩) hHeld ?_
            try simp only [Act.put, List.setIfInBounds_toArray, List.set_cons_zero, List.set_cons_succ]
            refine wpAnyH_take (i := 22) (oi := ⟨some 48, _, _, _, _, _⟩) (v := undef) rfl (by kernel_rfl) (by kernel_rfl) (by kernel_rfl) (fun _ _ _ h => h) (Or.inr ⟨by kernel_rfl, rfl⟩) hHeld ?_
            try simp only [Act.put, List.setIfInBounds_toArray, List.set_cons_zero, List.set_cons_succ]
            refine wpAnyH_take (i := 23) (oi := ⟨some 49, _, _, _, _, _⟩) (v := undef) rfl (by kernel_rfl) (by kernel_rfl) (by kernel_rfl) (fun _ _ _ h => h) (Or.inr ⟨by kernel_rfl, rfl⟩) hHeld ?_
            try simp only [Act.put, List.setIfInBounds_toArray, List.set_cons_zero, List.set_cons_succ]
            refine wpAnyH_take (i := 24) (oi := ⟨some 50, _, _, _, _, _⟩) (v := undef) rfl (by kernel_rfl) (by kernel_rfl) (by kernel_rfl) (fun _ _ _ h => h) (Or.inr ⟨by kernel_rfl, rfl⟩) hHeld ?_
            try simp only [Act.put, List.setIfInBounds_toArray, List.set_cons_zero, List.set_cons_succ]
            refine wpAnyH_take (i := 25) (oi := ⟨some 51, _, _, _, _, _⟩) (v := undef) rfl (by kernel_rfl) (by kernel_rfl) (by kernel_rfl) (fun _ _ _ h => h) (Or.inr ⟨by kernel_rfl, rfl⟩) hHeld ?_
            try simp only [Act.put, List.setIfInBounds_toArray, List.set_cons_zero, List.set_cons_succ]
            refine wpAnyH_take (i := 26) (oi := ⟨some 52, _, _, _, _, _⟩) (v := undef) rfl (by kernel_rfl) (by kernel_rfl) (by kernel_rfl) (fun _ _ _ h => h) (Or.inr ⟨by kernel_rfl, rfl⟩) hHeld ?_
            try simp only [Act.put, List.setIfInBounds_toArray, List.set_cons_zero, List.set_cons_succ]
            refine wpAnyH_take (i := 27) (oi := ⟨some 53, _, _, _, _, _⟩) (v := undef) rfl (by kernel_rfl) (by kernel_rfl) (by kernel_rfl) (fun _ _ _ h => h) (Or.inr ⟨by kernel_rfl, rfl⟩) hHeld ?_
            try simp only [Act.put, List.setIfInBounds_toArray, List.set_cons_zero, List.set_cons_succ]
            refine wpAnyH_take (i := 28) (oi := ⟨some 54, _, _, _, _, _⟩) (v := ?_) rfl (by kernel_rfl) (by kernel_rfl) (by kernel_rfl) (fun _ _ _ h => h) (Or.inl ⟨by kernel_rfl, ?_⟩) hHeld ?_
            rotate_left
            focus (intro W hS; have c0' := cell_nw hS c0; have c1' := cell_nw hS c1; have c2' := cell_nw hS c2; have c3' := cell_nw hS c3; have c4' := cell_nw hS c4; have c5' := cell_nw hS c5; have c6' := cell_nw hS c6; have c7' := cell_nw hS c7; have d0' := cell_nw hS d0; have d1' := cell_nw hS d1; have d2' := cell_nw hS d2; have d3' := cell_nw hS d3; have d4' := cell_nw hS d4; have d5' := cell_nw hS d5; have d6' := cell_nw hS d6; have d7' := cell_nw hS d7; clear hS; first | (go_simp; done) | (go_simp; with_reducible rfl))
            try simp only [Act.put, List.setIfInBounds_toArray, List.set_cons_zero, List.set_cons_succ]
            refine wpAnyH_take (i := 29) (oi := ⟨some 55, _, _, _, _, _⟩) (v := ?_) rfl (by kernel_rfl) (by kernel_rfl) (by kernel_rfl) (fun _ _ _ h => h) (Or.inl ⟨by kernel_rfl, ?_⟩) hHeld ?_
            rotate_left
            focus (intro W hS; have c0' := cell_nw hS c0; have c1' := cell_nw hS c1; have c2' := cell_nw hS c2; have c3' := cell_nw hS c3; have c4' := cell_nw hS c4; have c5' := cell_nw hS c5; have c6' := cell_nw hS c6; have c7' := cell_nw hS c7; have d0' := cell_nw hS d0; have d1' := cell_nw hS d1; have d2' := cell_nw hS d2; have d3' := cell_nw hS d3; have d4' := cell_nw hS d4; have d5' := cell_nw hS d5; have d6' := cell_nw hS d6; have d7' := cell_nw hS d7; clear hS; first | (go_simp; done) | (go_simp; with_reducible rfl))
            try simp only [Act.put, List.setIfInBounds_toArray, List.set_cons_zero, List.set_cons_succ]
            refine wpAnyH_take (i := 30) (oi := ⟨some 56, _, _, _, _, _⟩) (v := undef) rfl (by kernel_rfl) (by kernel_rfl) (by kernel_rfl) (fun _ _ _ h => h) (Or.inr ⟨by kernel_rfl, rfl⟩) hHeld ?_
            try simp only [Act.put, List.setIfInBounds_toArray, List.set_cons_zero, List.set_cons_succ]
            refine wpAnyH_take (i := 31) (oi := ⟨some 57, _, _, _, _, _⟩) (v := undef) rfl (by kernel_rfl) (by kernel_rfl) (by kernel_rfl) (fun _ _ _ h => h) (Or.inr ⟨by kernel_rfl, rfl⟩) hHeld ?_
            try simp only [Act.put, List.setIfInBounds_toArray, List.set_cons_zero, List.set_cons_succ]
            refine wpAnyH_take (i := 32) (oi := ⟨some 58, _, _, _, _, _⟩) (v := undef) rfl (by kernel_rfl) (by kernel_rfl) (by kernel_rfl) (fun _ _ _ h => h) (Or.inr ⟨by kernel_rfl, rfl⟩) hHeld ?_
            try simp only [Act.put, List.setIfInBounds_toArray, List.set_cons_zero, List.set_cons_succ]
            refine wpAnyH_take (i := 33) (oi := ⟨some 59, _, _, _, _, _⟩) (v := undef) rfl (by kernel_rfl) (by kernel_rfl) (by kernel_rfl) (fun _ _ _ h => h) (Or.inr ⟨by kernel_rfl, rfl⟩) hHeld ?_
            try simp only [Act.put, List.setIfInBounds_toArray, List.set_cons_zero, List.set_cons_succ]
            refine wpAnyH_take (i := 34) (oi := ⟨some 60, _, _, _, _, _⟩) (v := undef) rfl (by kernel_rfl) (by kernel_rfl) (by kernel_rfl) (fun _ _ _ h => h) (Or.inr ⟨by kernel_rfl, rfl⟩) hHeld ?_
            try simp only [Act.put, List.setIfInBounds_toArray, List.set_cons_zero, List.set_cons_succ]
            refine wpAnyH_take (i := 35) (oi := ⟨some 61, _, _, _, _, _⟩) (v := undef) rfl (by kernel_rfl) (by kernel_rfl) (by kernel_rfl) (fun _ _ _ h => h) (Or.inr ⟨by kernel_rfl, rfl⟩) hHeld ?_
            try simp only [Act.put, List.setIfInBounds_toArray, List.set_cons_zero, List.set_cons_succ]
            refine wpAnyH_take (i := 36) (oi := ⟨some 62, _, _, _, _, _⟩) (v := undef) rfl (by kernel_rfl) (by kernel_rfl) (by kernel_rfl) (fun _ _ _ h => h) (Or.inr ⟨by kernel_rfl, rfl⟩) hHeld ?_
            try simp only [Act.put, List.setIfInBounds_toArray, List.set_cons_zero, List.set_cons_succ]
            refine wpAnyH_take (i := 37) (oi := ⟨some 63, _, _, _, _, _⟩) (v := undef) rfl (by kernel_rfl) (by kernel_rfl) (by kernel_rfl) (fun _ _ _ h => h) (Or.inr ⟨by kernel_rfl, rfl⟩) hHeld ?_
            try simp only [Act.put, List.setIfInBounds_toArray, List.set_cons_zero, List.set_cons_succ]
            refine wpAnyH_take (i := 38) (oi := ⟨some 64, _, _, _, _, _⟩) (v := undef) rfl (by kernel_rfl) (by kernel_rfl) (by kernel_rfl) (fun _ _ _ h => h) (Or.inr ⟨by kernel_rfl, rfl⟩) hHeld ?_
            try simp only [Act.put, List.setIfInBounds_toArray, List.set_cons_zero, List.set_cons_succ]
            refine wpAnyH_take (i := 39) (oi := ⟨some 65, _, _, _, _, _⟩) (v := undef) rfl (by kernel_rfl) (by kernel_rfl) (by kernel_rfl) (fun _ _ _ h => h) (Or.inr ⟨by kernel_rfl, rfl⟩) hHeld ?_
            try simp only [Act.put, List.setIfInBounds_toArray, List.set_cons_zero, List.set_cons_succ]
            refine wpAnyH_take (i := 40) (oi := ⟨some 66, _, _, _, _, _⟩) (v := undef) rfl (by kernel_rfl) (by kernel_rfl) (by kernel_rfl) (fun _ _ _ h => h) (Or.inr ⟨by kernel_rfl, rfl⟩) hHeld ?_
            try simp only [Act.put, List.setIfInBounds_toArray, List.set_cons_zero, List.set_cons_succ]
            refine wpAnyH_take (i := 41) (oi := ⟨some 67, _, _, _, _, _⟩) (v := undef) rfl (by kernel_rfl) (by kernel_rfl) (by kernel_rfl) (fun _ _ _ h => h) (Or.inr ⟨by kernel_rfl, rfl⟩) hHeld ?_
            try simp only [Act.put, List.setIfInBounds_toArray, List.set_cons_zero, List.set_cons_succ]
            refine wpAnyH_take (i := 42) (oi := ⟨some 68, _, _, _, _, _⟩) (v := undef) rfl (by kernel_rfl) (by kernel_rfl) (by kernel_rfl) (fun _ _ _ h => h) (Or.inr ⟨by kernel_rfl, rfl⟩) hHeld ?_
            try simp only [Act.put, List.setIfInBounds_toArray, List.set_cons_zero, List.set_cons_succ]
            refine wpAnyH_take (i := 43) (oi := ⟨some 69, _, _, _, _, _⟩) (v := undef) rfl (by kernel_rfl) (by kernel_rfl) (by kernel_rfl) (fun _ _ _ h => h) (Or.inr ⟨by kernel_rfl, rfl⟩) hHeld ?_
            try simp only [Act.put, List.setIfInBounds_toArray, List.set_cons_zero, List.set_cons_succ]
            refine wpAnyH_take (i := 44) (oi := ⟨some 70, _, _, _, _, _⟩) (v := undef) rfl (by kernel_rfl) (by kernel_rfl) (by kernel_rfl) (fun _ _ _ h => h) (Or.inr ⟨by kernel_rfl, rfl⟩) hHeld ?_
            try simp only [Act.put, List.setIfInBounds_toArray, List.set_cons_zero, List.set_cons_succ]
            refine wpAnyH_take (i := 45) (oi := ⟨some 71, _, _, _, _, _⟩) (v := undef) rfl (by kernel_rfl) (by kernel_rfl) (by kernel_rfl) (fun _ _ _ h => h) (Or.inr ⟨by kernel_rfl, rfl⟩) hHeld ?_
            try simp only [Act.put, List.setIfInBounds_toArray, List.set_cons_zero, List.set_cons_succ]
            refine wpAnyH_take (i := 46) (oi := ⟨some 72, _, _, _, _, _⟩) (v := undef) rfl (by kernel_rfl) (by kernel_rfl) (by kernel_rfl) (fun _ _ _ h => h) (Or.inr ⟨by kernel_rfl, rfl⟩) hHeld ?_
            try simp only [Act.put, List.setIfInBounds_toArray, List.set_cons_zero, List.set_cons_succ]
            refine wpAnyH_take (i := 47) (oi := ⟨some 73, _, _, _, _, _⟩) (v := undef) rfl (by kernel_rfl) (by kernel_rfl) (by kernel_rfl) (fun _ _ _ h => h) (Or.inr ⟨by kernel_rfl, rfl⟩) hHeld ?_
            try simp only [Act.put, List.setIfInBounds_toArray, List.set_cons_zero, List.set_cons_succ]
            refine wpAnyH_take (i := 48) (oi := ⟨some 74, _, _, _, _, _⟩) (v := undef) rfl (by kernel_rfl) (by kernel_rfl) (by kernel_rfl) (fun _ _ _ h => h) (Or.inr ⟨by kernel_rfl, rfl⟩) hHeld ?_
            try simp only [Act.put, List.setIfInBounds_toArray, List.set_cons_zero, List.set_cons_succ]
            refine wpAnyH_take (i := 49) (oi := ⟨some 75, _, _, _, _, _⟩) (v := ?_) rfl (by kernel_rfl) (by kernel_rfl) (by kernel_rfl) (fun _ _ _ h => h) (Or.inl ⟨by kernel_rfl, ?_⟩) hHeld ?_
            rotate_left
            focus (intro W hS; have c0' := cell_nw hS c0; have c1' := cell_nw hS c1; have c2' := cell_nw hS c2; have c3' := cell_nw hS c3; have c4' := cell_nw hS c4; have c5' := cell_nw hS c5; have c6' := cell_nw hS c6; have c7' := cell_nw hS c7; have d0' := cell_nw hS d0; have d1' := cell_nw hS d1; have d2' := cell_nw hS d2; have d3' := cell_nw hS d3; have d4' := cell_nw hS d4; have d5' := cell_nw hS d5; have d6' := cell_nw hS d6; have d7' := cell_nw hS d7; clear hS; first | (go_simp; done) | (go_simp; with_reducible rfl))
            try simp only [Act.put, List.setIfInBounds_toArray, List.set_cons_zero, List.set_cons_succ]
            refine wpAnyH_done (by kernel_rfl) ?_ _
            have HE := Lib.hid (HN.out (by rw [HQ.out]; simp [mTakes]))
            have HBn := Lib.hid (below_trans HB.out hHeld (Nat.le_refl _))
            clear hHeld
            go_wp2_with fail
            go_roundg (n - (m + 1))
            case measure => omega
            case rel => exact ⟨m + 1, by omega, by omega, by go_num, HE, HBn⟩
          · skip
            refine wpAnyH_take (i := 5) (oi := ⟨some 31, _, _, _, _, _⟩) (v := ?_) rfl (by kernel_rfl) (by kernel_rfl) (by kernel_rfl) (fun _ _ _ h => h) (Or.inl ⟨by kernel_rfl, ?_⟩) hHeld ?_
            rotate_left
            focus (intro W hS; have c0' := cell_nw hS c0; have c1' := cell_nw hS c1; have c2' := cell_nw hS c2; have c3' := cell_nw hS c3; have c4' := cell_nw hS c4; have c5' := cell_nw hS c5; have c6' := cell_nw hS c6; have c7' := cell_nw hS c7; have d0' := cell_nw hS d0; have d1' := cell_nw hS d1; have d2' := cell_nw hS d2; have d3' := cell_nw hS d3; have d4' := cell_nw hS d4; have d5' := cell_nw hS d5; have d6' := cell_nw hS d6; have d7' := cell_nw hS d7; clear hS; first | (go_simp; done) | (go_simp; with_reducible rfl))
            try simp only [Act.put, List.setIfInBounds_toArray, List.set_cons_zero, List.set_cons_succ]
            refine wpAnyH_take (i := 6) (oi := ⟨some 32, _, _, _, _, _⟩) (v := ?_) rfl (by kernel_rfl) (by kernel_rfl) (by kernel_rfl) (fun _ _ _ h => h) (Or.inl ⟨by kernel_rfl, ?_⟩) hHeld ?_
            rotate_left
            focus (intro W hS; have c0' := cell_nw hS c0; have c1' := cell_nw hS c1; have c2' := cell_nw hS c2; have c3' := cell_nw hS c3; have c4' := cell_nw hS c4; have c5' := cell_nw hS c5; have c6' := cell_nw hS c6; have c7' := cell_nw hS c7; have d0' := cell_nw hS d0; have d1' := cell_nw hS d1; have d2' := cell_nw hS d2; have d3' := cell_nw hS d3; have d4' := cell_nw hS d4; have d5' := cell_nw hS d5; have d6' := cell_nw hS d6; have d7' := cell_nw hS d7; clear hS; first | (go_simp; done) | (go_simp; with_reducible rfl))
            try simp only [Act.put, List.setIfInBounds_toArray, List.set_cons_zero, List.set_cons_succ]
            refine wpAnyH_take (i := 7) (oi := ⟨some 33, _, _, _, _, _⟩) (v := ?_) rfl (by kernel_rfl) (by kernel_rfl) (by kernel_rfl) (fun _ _ _ h => h) (Or.inl ⟨by kernel_rfl, ?_⟩) hHeld ?_
            rotate_left
            focus (intro W hS; have c0' := cell_nw hS c0; have c1' := cell_nw hS c1; have c2' := cell_nw hS c2; have c3' := cell_nw hS c3; have c4' := cell_nw hS c4; have c5' := cell_nw hS c5; have c6' := cell_nw hS c6; have c7' := cell_nw hS c7; have d0' := cell_nw hS d0; have d1' := cell_nw hS d1; have d2' := cell_nw hS d2; have d3' := cell_nw hS d3; have d4' := cell_nw hS d4; have d5' := cell_nw hS d5; have d6' := cell_nw hS d6; have d7' := cell_nw hS d7; clear hS; first | (go_simp; done) | (go_simp; with_reducible rfl))
            try simp only [Act.put, List.setIfInBounds_toArray, List.set_cons_zero, List.set_cons_succ]
            refine wpAnyH_take (i := 8) (oi := ⟨some 34, _, _, _, _, _⟩) (v := ?_) rfl (by kernel_rfl) (by kernel_rfl) (by kernel_rfl) (fun _ _ _ h => h) (Or.inl ⟨by kernel_rfl, ?_⟩) hHeld ?_
            rotate_left
            focus (intro W hS; have c0' := cell_nw hS c0; have c1' := cell_nw hS c1; have c2' := cell_nw hS c2; have c3' := cell_nw hS c3; have c4' := cell_nw hS c4; have c5' := cell_nw hS c5; have c6' := cell_nw hS c6; have c7' := cell_nw hS c7; have d0' := cell_nw hS d0; have d1' := cell_nw hS d1; have d2' := cell_nw hS d2; have d3' := cell_nw hS d3; have d4' := cell_nw hS d4; have d5' := cell_nw hS d5; have d6' := cell_nw hS d6; have d7' := cell_nw hS d7; clear hS; first | (go_simp; done) | (go_simp; with_reducible rfl))
            try simp only [Act.put, List.setIfInBounds_toArray, List.set_cons_zero, List.set_cons_succ]
            refine wpAnyH_take (i := 9) (oi := ⟨some 35, _, _, _, _, _⟩) (v := ?_) rfl (by kernel_rfl) (by kernel_rfl) (by kernel_rfl) (fun _ _ _ h => h) (Or.inl ⟨by kernel_rfl, ?_⟩) hHeld ?_
            rotate_left
            focus (intro W hS; have c0' := cell_nw hS c0; have c1' := cell_nw hS c1; have c2' := cell_nw hS c2; have c3' := cell_nw hS c3; have c4' := cell_nw hS c4; have c5' := cell_nw hS c5; have c6' := cell_nw hS c6; have c7' := cell_nw hS c7; have d0' := cell_nw hS d0; have d1' := cell_nw hS d1; have d2' := cell_nw hS d2; have d3' := cell_nw hS d3; have d4' := cell_nw hS d4; have d5' := cell_nw hS d5; have d6' := cell_nw hS d6; have d7' := cell_nw hS d7; clear hS; first | (go_simp; done) | (go_simp; with_reducible rfl))
            try simp only [Act.put, List.setIfInBounds_toArray, List.set_cons_zero, List.set_cons_succ]
            refine wpAnyH_take (i := 10) (oi := ⟨some 36, _, _, _, _, _⟩) (v := ?_) rfl (by kernel_rfl) (by kernel_rfl) (by kernel_rfl) (fun _ _ _ h => h) (Or.inl ⟨by kernel_rfl, ?_⟩) hHeld ?_
            rotate_left
            focus (intro W hS; have c0' := cell_nw hS c0; have c1' := cell_nw hS c1; have c2' := cell_nw hS c2; have c3' := cell_nw hS c3; have c4' := cell_nw hS c4; have c5' := cell_nw hS c5; have c6' := cell_nw hS c6; have c7' := cell_nw hS c7; have d0' := cell_nw hS d0; have d1' := cell_nw hS d1; have d2' := cell_nw hS d2; have d3' := cell_nw hS d3; have d4' := cell_nw hS d4; have d5' := cell_nw hS d5; have d6' := cell_nw hS d6; have d7' := cell_nw hS d7; clear hS; first | (go_simp; done) | (go_simp; with_reducible rfl))
            try simp only [Act.put, List.setIfInBounds_toArray, List.set_cons_zero, List.set_cons_succ]
            refine wpAnyH_take (i := 11) (oi := ⟨some 37, _, _, _, _, _⟩) (v := ?_) rfl (by kernel_rfl) (by kernel_rfl) (by kernel_rfl) (fun _ _ _ h => h) (Or.inl ⟨by kernel_rfl, ?_⟩) hHeld ?_
            rotate_left
            focus (intro W hS; have c0' := cell_nw hS c0; have c1' := cell_nw hS c1; have c2' := cell_nw hS c2; have c3' := cell_nw hS c3; have c4' := cell_nw hS c4; have c5' := cell_nw hS c5; have c6' := cell_nw hS c6; have c7' := cell_nw hS c7; have d0' := cell_nw hS d0; have d1' := cell_nw hS d1; have d2' := cell_nw hS d2; have d3' := cell_nw hS d3; have d4' := cell_nw hS d4; have d5' := cell_nw hS d5; have d6' := cell_nw hS d6; have d7' := cell_nw hS d7; clear hS; first | (go_simp; done) | (go_simp; with_reducible rfl))
            try simp only [Act.put, List.setIfInBounds_toArray, List.set_cons_zero, List.set_cons_succ]
            refine wpAnyH_take (i := 12) (oi := ⟨some 38, _, _, _, _, _⟩) (v := ?_) rfl (by kernel_rfl) (by kernel_rfl) (by kernel_rfl) (fun _ _ _ h => h) (Or.inl ⟨by kernel_rfl, ?_⟩) hHeld ?_
            rotate_left
            focus (intro W hS; have c0' := cell_nw hS c0; have c1' := cell_nw hS c1; have c2' := cell_nw hS c2; have c3' := cell_nw hS c3; have c4' := cell_nw hS c4; have c5' := cell_nw hS c5; have c6' := cell_nw hS c6; have c7' := cell_nw hS c7; have d0' := cell_nw hS d0; have d1' := cell_nw hS d1; have d2' := cell_nw hS d2; have d3' := cell_nw hS d3; have d4' := cell_nw hS d4; have d5' := cell_nw hS d5; have d6' := cell_nw hS d6; have d7' := cell_nw hS d7; clear hS; first | (go_simp; done) | (go_simp; with_reducible rfl))
            try simp only [Act.put, List.setIfInBounds_toArray, List.set_cons_zero, List.set_cons_succ]
            refine wpAnyH_take (i := 13) (oi := ⟨some 39, _, _, _, _, _⟩) (v := ?_) rfl (by kernel_rfl) (by kernel_rfl) (by kernel_rfl) (fun _ _ _ h => h) (Or.inl ⟨by kernel_rfl, ?_⟩) hHeld ?_
            rotate_left
            focus (intro W hS; have c0' := cell_nw hS c0; have c1' := cell_nw hS c1; have c2' := cell_nw hS c2; have c3' := cell_nw hS c3; have c4' := cell_nw hS c4; have c5' := cell_nw hS c5; have c6' := cell_nw hS c6; have c7' := cell_nw hS c7; have d0' := cell_nw hS d0; have d1' := cell_nw hS d1; have d2' := cell_nw hS d2; have d3' := cell_nw hS d3; have d4' := cell_nw hS d4; have d5' := cell_nw hS d5; have d6' := cell_nw hS d6; have d7' := cell_nw hS d7; clear hS; first | (go_simp; done) | (go_simp; with_reducible rfl))
            try simp only [Act.put, List.setIfInBounds_toArray, List.set_cons_zero, List.set_cons_succ]
            refine wpAnyH_ready (rs := [14]) (by kernel_rfl) (by simp) ?_
            refine AllReadyH.cons (o := ⟨some 40, _, _, _, _, _⟩) rfl (fun K hK => ?_) AllReadyH.nil
            go_simp
            refine Calls.mono (C1.out _) ?_
            rintro e x2 ⟨rfl, hb1⟩
            refine hK.out _ _ (below_trans hHeld hb1 (Nat.le_refl _)) (fun hHeld' => ?_)
            clear hK K hHeld hb1
            have hHeld := hHeld'
            clear hHeld'
            try simp only [Act.put, List.setIfInBounds_toArray, List.set_cons_zero, List.set_cons_succ]
            cases r1
            · skip
              refine wpAnyH_take (i := 15) (oi := ⟨some 41, _, _, _, _, _⟩) (v := ?_) rfl (by kernel_rfl) (by kernel_rfl) (by kernel_rfl) (fun _ _ _ h => h) (Or.inl ⟨by kernel_rfl, ?_⟩) hHeld ?_
              rotate_left
              focus (intro W hS; have c0' := cell_nw hS c0; have c1' := cell_nw hS c1; have c2' := cell_nw hS c2; have c3' := cell_nw hS c3; have c4' := cell_nw hS c4; have c5' := cell_nw hS c5; have c6' := cell_nw hS c6; have c7' := cell_nw hS c7; have d0' := cell_nw hS d0; have d1' := cell_nw hS d1; have d2' := cell_nw hS d2; have d3' := cell_nw hS d3; have d4' := cell_nw hS d4; have d5' := cell_nw hS d5; have d6' := cell_nw hS d6; have d7' := cell_nw hS d7; clear hS; first | (go_simp; done) | (go_simp; with_reducible rfl))
              try simp only [Act.put, List.setIfInBounds_toArray, List.set_cons_zero, List.set_cons_succ]
              refine wpAnyH_take (i := 16) (oi := ⟨some 42, _, _, _, _, _⟩) (v := ?_) rfl (by kernel_rfl) (by kernel_rfl) (by kernel_rfl) (fun _ _ _ h => h) (Or.inl ⟨by kernel_rfl, ?_⟩) hHeld ?_
              rotate_left
              focus (intro W hS; have c0' := cell_nw hS c0; have c1' := cell_nw hS c1; have c2' := cell_nw hS c2; have c3' := cell_nw hS c3; have c4' := cell_nw hS c4; have c5' := cell_nw hS c5; have c6' := cell_nw hS c6; have c7' := cell_nw hS c7; have d0' := cell_nw hS d0; have d1' := cell_nw hS d1; have d2' := cell_nw hS d2; have d3' := cell_nw hS d3; have d4' := cell_nw hS d4; have d5' := cell_nw hS d5; have d6' := cell_nw hS d6; have d7' := cell_nw hS d7; clear hS; first | (go_simp; done) | (go_simp; with_reducible rfl))
              try simp only [Act.put, List.setIfInBounds_toArray, List.set_cons_zero, List.set_cons_succ]
              refine wpAnyH_take (i := 17) (oi := ⟨some 43, _, _, _, _, _⟩) (v := undef) rfl (by kernel_rfl) (by kernel_rfl) (by kernel_rfl) (fun _ _ _ h => h) (Or.inr ⟨by kernel_rfl, rfl⟩) hHeld ?_
              try simp only [Act.put, List.setIfInBounds_toArray, List.set_cons_zero, List.set_cons_succ]
              refine wpAnyH_take (i := 18) (oi := ⟨some 44, _, _, _, _, _⟩) (v := undef) rfl (by kernel_rfl) (by kernel_rfl) (by kernel_rfl) (fun _ _ _ h => h) (Or.inr ⟨by kernel_rfl, rfl⟩) hHeld ?_
              try simp only [Act.put, List.setIfInBounds_toArray, List.set_cons_zero, List.set_cons_succ]
              refine wpAnyH_take (i := 19) (oi := ⟨some 45, _, _, _, _, _⟩) (v := undef) rfl (by kernel_rfl) (by kernel_rfl) (by kernel_rfl) (fun _ _ _ h => h) (Or.inr ⟨by kernel_rfl, rfl⟩) hHeld ?_
              try simp only [Act.put, List.setIfInBounds_toArray, List.set_cons_zero, List.set_cons_succ]
              refine wpAnyH_take (i := 20) (oi := ⟨some 46, _, _, _, _, _⟩) (v := undef) rfl (by kernel_rfl) (by kernel_rfl) (by kernel_rfl) (fun _ _ _ h => h) (Or.inr ⟨by kernel_rfl, rfl⟩) hHeld ?_
              try simp only [Act.put, List.setIfInBounds_toArray, List.set_cons_zero, List.set_cons_succ]
              refine wpAnyH_take (i := 21) (oi := ⟨some 47, _, _, _, _, _⟩) (v := undef) rfl (by kernel_rfl) (by kernel_rfl) (by kernel_rfl) (fun _ _ _ h => h) (Or.inr ⟨by kernel_rfl, rfl⟩) hHeld ?_
              try simp only [Act.put, List.setIfInBounds_toArray, List.set_cons_zero, List.set_cons_succ]
              refine wpAnyH_take (i := 22) (oi := ⟨some 48, _, _, _, _, _⟩) (v := undef) rfl (by kernel_rfl) (by kernel_rfl) (by kernel_rfl) (fun _ _ _ h => h) (Or.inr ⟨by kernel_rfl, rfl⟩) hHeld ?_
              try simp only [Act.put, List.setIfInBounds_toArray, List.set_cons_zero, List.set_cons_succ]
              refine wpAnyH_take (i := 23) (oi := ⟨some 49, _, _, _, _, _⟩) (v := undef) rfl (by kernel_rfl) (by kernel_rfl) (by kernel_rfl) (fun _ _ _ h => h) (Or.inr ⟨by kernel_rfl, rfl⟩) hHeld ?_
              try simp only [Act.put, List.setIfInBounds_toArray, List.set_cons_zero, List.set_cons_succ]
              refine wpAnyH_take (i := 24) (oi := ⟨some 50, _, _, _, _, _⟩) (v := undef) rfl (by kernel_rfl) (by kernel_rfl) (by kernel_rfl) (fun _ _ _ h => h) (Or.inr ⟨by kernel_rfl, rfl⟩) hHeld ?_
              try simp only [Act.put, List.setIfInBounds_toArray, List.set_cons_zero, List.set_cons_succ]
              refine wpAnyH_take (i := 25) (oi := ⟨some 51, _, _, _, _, _⟩) (v := undef) rfl (by kernel_rfl) (by kernel_rfl) (by kernel_rfl) (fun _ _ _ h => h) (Or.inr ⟨by kernel_rfl, rfl⟩) hHeld ?_
              try simp only [Act.put, List.setIfInBounds_toArray, List.set_cons_zero, List.set_cons_succ]
              refine wpAnyH_take (i := 26) (oi := ⟨some 52, _, _, _, _, _⟩) (v := undef) rfl (by kernel_rfl) (by kernel_rfl) (by kernel_rfl) (fun _ _ _ h => h) (Or.inr ⟨by kernel_rfl, rfl⟩) hHeld ?_
              try simp only [Act.put, List.setIfInBounds_toArray, List.set_cons_zero, List.set_cons_succ]
              refine wpAnyH_take (i := 27) (oi := ⟨some 53, _, _, _, _, _⟩) (v := undef) rfl (by kernel_rfl) (by kernel_rfl) (by kernel_rfl) (fun _ _ _ h => h) (Or.inr ⟨by kernel_rfl, rfl⟩) hHeld ?_
              try simp only [Act.put, List.setIfInBounds_toArray, List.set_cons_zero, List.set_cons_succ]
              refine wpAnyH_take (i := 28) (oi := ⟨some 54, _, _, _, _, _⟩) (v := ?_) rfl (by kernel_rfl) (by kernel_rfl) (by kernel_rfl) (fun _ _ _ h => h) (Or.inl ⟨by kernel_rfl, ?_⟩) hHeld ?_
              rotate_left
              focus (intro W hS; have c0' := cell_nw hS c0; have c1' := cell_nw hS c1; have c2' := cell_nw hS c2; have c3' := cell_nw hS c3; have c4' := cell_nw hS c4; have c5' := cell_nw hS c5; have c6' := cell_nw hS c6; have c7' := cell_nw hS c7; have d0' := cell_nw hS d0; have d1' := cell_nw hS d1; have d2' := cell_nw hS d2; have d3' := cell_nw hS d3; have d4' := cell_nw hS d4; have d5' := cell_nw hS d5; have d6' := cell_nw hS d6; have d7' := cell_nw hS d7; clear hS; first | (go_simp; done) | (go_simp; with_reducible rfl))
              try simp only [Act.put, List.setIfInBounds_toArray, List.set_cons_zero, List.set_cons_succ]
              refine wpAnyH_take (i := 29) (oi := ⟨some 55, _, _, _, _, _⟩) (v := ?_) rfl (by kernel_rfl) (by kernel_rfl) (by kernel_rfl) (fun _ _ _ h => h) (Or.inl ⟨by kernel_rfl, ?_⟩) hHeld ?_
              rotate_left
              focus (intro W hS; have c0' := cell_nw hS c0; have c1' := cell_nw hS c1; have c2' := cell_nw hS c2; have c3' := cell_nw hS c3; have c4' := cell_nw hS c4; have c5' := cell_nw hS c5; have c6' := cell_nw hS c6; have c7' := cell_nw hS c7; have d0' := cell_nw hS d0; have d1' := cell_nw hS d1; have d2' := cell_nw hS d2; have d3' := cell_nw hS d3; have d4' := cell_nw hS d4; have d5' := cell_nw hS d5; have d6' := cell_nw hS d6; have d7' := cell_nw hS d7; clear hS; first | (go_simp; done) | (go_simp; with_reducible rfl))
              try simp only [Act.put, List.setIfInBounds_toArray, List.set_cons_zero, List.set_cons_succ]
              refine wpAnyH_take (i := 30) (oi := ⟨some 56, _, _, _, _, _⟩) (v := undef) rfl (by kernel_rfl) (by kernel_rfl) (by kernel_rfl) (fun _ _ _ h => h) (Or.inr ⟨by kernel_rfl, rfl⟩) hHeld ?_
              try simp only [Act.put, List.setIfInBounds_toArray, List.set_cons_zero, List.set_cons_succ]
              refine wpAnyH_take (i := 31) (oi := ⟨some 57, _, _, _, _, _⟩) (v := undef) rfl (by kernel_rfl) (by kernel_rfl) (by kernel_rfl) (fun _ _ _ h => h) (Or.inr ⟨by kernel_rfl, rfl⟩) hHeld ?_
              try simp only [Act.put, List.setIfInBounds_toArray, List.set_cons_zero, List.set_cons_succ]
              refine wpAnyH_take (i := 32) (oi := ⟨some 58, _, _, _, _, _⟩) (v := undef) rfl (by kernel_rfl) (by kernel_rfl) (by kernel_rfl) (fun _ _ _ h => h) (Or.inr ⟨by kernel_rfl, rfl⟩) hHeld ?_
              try simp only [Act.put, List.setIfInBounds_toArray, List.set_cons_zero, List.set_cons_succ]
              refine wpAnyH_take (i := 33) (oi := ⟨some 59, _, _, _, _, _⟩) (v := undef) rfl (by kernel_rfl) (by kernel_rfl) (by kernel_rfl) (fun _ _ _ h => h) (Or.inr ⟨by kernel_rfl, rfl⟩) hHeld ?_
              try simp only [Act.put, List.setIfInBounds_toArray, List.set_cons_zero, List.set_cons_succ]
              refine wpAnyH_take (i := 34) (oi := ⟨some 60, _, _, _, _, _⟩) (v := undef) rfl (by kernel_rfl) (by kernel_rfl) (by kernel_rfl) (fun _ _ _ h => h) (Or.inr ⟨by kernel_rfl, rfl⟩) hHeld ?_
              try simp only [Act.put, List.setIfInBounds_toArray, List.set_cons_zero, List.set_cons_succ]
              refine wpAnyH_take (i := 35) (oi := ⟨some 61, _, _, _, _, _⟩) (v := undef) rfl (by kernel_rfl) (by kernel_rfl) (by kernel_rfl) (fun _ _ _ h => h) (Or.inr ⟨by kernel_rfl, rfl⟩) hHeld ?_
              try simp only [Act.put, List.setIfInBounds_toArray, List.set_cons_zero, List.set_cons_succ]
              refine wpAnyH_take (i := 36) (oi := ⟨some 62, _, _, _, _, _⟩) (v := undef) rfl (by kernel_rfl) (by kernel_rfl) (by kernel_rfl) (fun _ _ _ h => h) (Or.inr ⟨by kernel_rfl, rfl⟩) hHeld ?_
              try simp only [Act.put, List.setIfInBounds_toArray, List.set_cons_zero, List.set_cons_succ]
              refine wpAnyH_take (i := 37) (oi := ⟨some 63, _, _, _, _, _⟩) (v := undef) rfl (by kernel_rfl) (by kernel_rfl) (by kernel_rfl) (fun _ _ _ h => h) (Or.inr ⟨by kernel_rfl, rfl⟩) hHeld ?_
              try simp only [Act.put, List.setIfInBounds_toArray, List.set_cons_zero, List.set_cons_succ]
              refine wpAnyH_take (i := 38) (oi := ⟨some 64, _, _, _, _, _⟩) (v := undef) rfl (by kernel_rfl) (by kernel_rfl) (by kernel_rfl) (fun _ _ _ h => h) (Or.inr ⟨by kernel_rfl, rfl⟩) hHeld ?_
              try simp only [Act.put, List.setIfInBounds_toArray, List.set_cons_zero, List.set_cons_succ]
              refine wpAnyH_take (i := 39) (oi := ⟨some 65, _, _, _, _, _⟩) (v := undef) rfl (by kernel_rfl) (by kernel_rfl) (by kernel_rfl) (fun _ _ _ h => h) (Or.inr ⟨by kernel_rfl, rfl⟩) hHeld ?_
              try simp only [Act.put, List.setIfInBounds_toArray, List.set_cons_zero, List.set_cons_succ]
              refine wpAnyH_take (i := 40) (oi := ⟨some 66, _, _, _, _, _⟩) (v := undef) rfl (by kernel_rfl) (by kernel_rfl) (by kernel_rfl) (fun _ _ _ h => h) (Or.inr ⟨by kernel_rfl, rfl⟩) hHeld ?_
              try simp only [Act.put, List.setIfInBounds_toArray, List.set_cons_zero, List.set_cons_succ]
              refine wpAnyH_take (i := 41) (oi := ⟨some 67, _, _, _, _, _⟩) (v := undef) rfl (by kernel_rfl) (by kernel_rfl) (by kernel_rfl) (fun _ _ _ h => h) (Or.inr ⟨by kernel_rfl, rfl⟩) hHeld ?_
              try simp only [Act.put, List.setIfInBounds_toArray, List.set_cons_zero, List.set_cons_succ]
              refine wpAnyH_take (i := 42) (oi := ⟨some 68, _, _, _, _, _⟩) (v := undef) rfl (by kernel_rfl) (by kernel_rfl) (by kernel_rfl) (fun _ _ _ h => h) (Or.inr ⟨by kernel_rfl, rfl⟩) hHeld ?_
              try simp only [Act.put, List.setIfInBounds_toArray, List.set_cons_zero, List.set_cons_succ]
              refine wpAnyH_take (i := 43) (oi := ⟨some 69, _, _, _, _, _⟩) (v := undef) rfl (by kernel_rfl) (by kernel_rfl) (by kernel_rfl) (fun _ _ _ h => h) (Or.inr ⟨by kernel_rfl, rfl⟩) hHeld ?_
              try simp only [Act.put, List.setIfInBounds_toArray, List.set_cons_zero, List.set_cons_succ]
              refine wpAnyH_take (i := 44) (oi := ⟨some 70, _, _, _, _, _⟩) (v := undef) rfl (by kernel_rfl) (by kernel_rfl) (by kernel_rfl) (fun _ _ _ h => h) (Or.inr ⟨by kernel_rfl, rfl⟩) hHeld ?_
              try simp only [Act.put, List.setIfInBounds_toArray, List.set_cons_zero, List.set_cons_succ]
              refine wpAnyH_take (i := 45) (oi := ⟨some 71, _, _, _, _, _⟩) (v := undef) rfl (by kernel_rfl) (by kernel_rfl) (by kernel_rfl) (fun _ _ _ h => h) (Or.inr ⟨by kernel_rfl, rfl⟩) hHeld ?_
              try simp only [Act.put, List.setIfInBounds_toArray, List.set_cons_zero, List.set_cons_succ]
              refine wpAnyH_take (i := 46) (oi := ⟨some 72, _, _, _, _, _⟩) (v := undef) rfl (by kernel_rfl) (by kernel_rfl) (by kernel_rfl) (fun _ _ _ h => h) (Or.inr ⟨by kernel_rfl, rfl⟩) hHeld ?_
              try simp only [Act.put, List.setIfInBounds_toArray, List.set_cons_zero, List.set_cons_succ]
              refine wpAnyH_take (i := 47) (oi := ⟨some 73, _, _, _, _, _⟩) (v := undef) rfl (by kernel_rfl) (by kernel_rfl) (by kernel_rfl) (fun _ _ _ h => h) (Or.inr ⟨by kernel_rfl, rfl⟩) hHeld ?_
              try simp only [Act.put, List.setIfInBounds_toArray, List.set_cons_zero, List.set_cons_succ]
              refine wpAnyH_take (i := 48) (oi := ⟨some 74, _, _, _, _, _⟩) (v := undef) rfl (by kernel_rfl) (by kernel_rfl) (by kernel_rfl) (fun _ _ _ h => h) (Or.inr ⟨by kernel_rfl, rfl⟩) hHeld ?_
              try simp only [Act.put, List.setIfInBounds_toArray, List.set_cons_zero, List.set_cons_succ]
              refine wpAnyH_take (i := 49) (oi := ⟨some 75, _, _, _, _, _⟩) (v := ?_) rfl (by kernel_rfl) (by kernel_rfl) (by kernel_rfl) (fun _ _ _ h => h) (Or.inl ⟨by kernel_rfl, ?_⟩) hHeld ?_
              rotate_left
              focus (intro W hS; have c0' := cell_nw hS c0; have c1' := cell_nw hS c1; have c2' := cell_nw hS c2; have c3' := cell_nw hS c3; have c4' := cell_nw hS c4; have c5' := cell_nw hS c5; have c6' := cell_nw hS c6; have c7' := cell_nw hS c7; have d0' := cell_nw hS d0; have d1' := cell_nw hS d1; have d2' := cell_nw hS d2; have d3' := cell_nw hS d3; have d4' := cell_nw hS d4; have d5' := cell_nw hS d5; have d6' := cell_nw hS d6; have d7' := cell_nw hS d7; clear hS; first | (go_simp; done) | (go_simp; with_reducible rfl))
              try simp only [Act.put, List.setIfInBounds_toArray, List.set_cons_zero, List.set_cons_succ]
              refine wpAnyH_done (by kernel_rfl) ?_ _
              have HE := Lib.hid (HN.out (by rw [HQ.out]; simp [mTakes]))
              have HBn := Lib.hid (below_trans HB.out hHeld (Nat.le_refl _))
              clear hHeld
              go_wp2_with fail
              go_roundg (n - (m + 1))
              case measure => omega
              case rel => exact ⟨m + 1, by omega, by omega, by go_num, HE, HBn⟩
            · skip
              refine wpAnyH_take (i := 15) (oi := ⟨some 41, _, _, _, _, _⟩) (v := ?_) rfl (by kernel_rfl) (by kernel_rfl) (by kernel_rfl) (fun _ _ _ h => h) (Or.inl ⟨by kernel_rfl, ?_⟩) hHeld ?_
              rotate_left
              focus (intro W hS; have c0' := cell_nw hS c0; have c1' := cell_nw hS c1; have c2' := cell_nw hS c2; have c3' := cell_nw hS c3; have c4' := cell_nw hS c4; have c5' := cell_nw hS c5; have c6' := cell_nw hS c6; have c7' := cell_nw hS c7; have d0' := cell_nw hS d0; have d1' := cell_nw hS d1; have d2' := cell_nw hS d2; have d3' := cell_nw hS d3; have d4' := cell_nw hS d4; have d5' := cell_nw hS d5; have d6' := cell_nw hS d6; have d7' := cell_nw hS d7; clear hS; first | (go_simp; done) | (go_simp; with_reducible rfl))
              try simp only [Act.put, List.setIfInBounds_toArray, List.set_cons_zero, List.set_cons_succ]
              refine wpAnyH_take (i := 16) (oi := ⟨some 42, _, _, _, _, _⟩) (v := ?_) rfl (by kernel_rfl) (by kernel_rfl) (by kernel_rfl) (fun _ _ _ h => h) (Or.inl ⟨by kernel_rfl, ?_⟩) hHeld ?_
              rotate_left
              focus (intro W hS; have c0' := cell_nw hS c0; have c1' := cell_nw hS c1; have c2' := cell_nw hS c2; have c3' := cell_nw hS c3; have c4' := cell_nw hS c4; have c5' := cell_nw hS c5; have c6' := cell_nw hS c6; have c7' := cell_nw hS c7; have d0' := cell_nw hS d0; have d1' := cell_nw hS d1; have d2' := cell_nw hS d2; have d3' := cell_nw hS d3; have d4' := cell_nw hS d4; have d5' := cell_nw hS d5; have d6' := cell_nw hS d6; have d7' := cell_nw hS d7; clear hS; first | (go_simp; done) | (go_simp; with_reducible rfl))
              try simp only [Act.put, List.setIfInBounds_toArray, List.set_cons_zero, List.set_cons_succ]
              refine wpAnyH_take (i := 17) (oi := ⟨some 43, _, _, _, _, _⟩) (v := ?_) rfl (by kernel_rfl) (by kernel_rfl) (by kernel_rfl) (fun _ _ _ h => h) (Or.inl ⟨by kernel_rfl, ?_⟩) hHeld ?_
              rotate_left
              focus (intro W hS; have c0' := cell_nw hS c0; have c1' := cell_nw hS c1; have c2' := cell_nw hS c2; have c3' := cell_nw hS c3; have c4' := cell_nw hS c4; have c5' := cell_nw hS c5; have c6' := cell_nw hS c6; have c7' := cell_nw hS c7; have d0' := cell_nw hS d0; have d1' := cell_nw hS d1; have d2' := cell_nw hS d2; have d3' := cell_nw hS d3; have d4' := cell_nw hS d4; have d5' := cell_nw hS d5; have d6' := cell_nw hS d6; have d7' := cell_nw hS d7; clear hS; first | (go_simp; done) | (go_simp; with_reducible rfl))
              try simp only [Act.put, List.setIfInBounds_toArray, List.set_cons_zero, List.set_cons_succ]
              refine wpAnyH_take (i := 18) (oi := ⟨some 44, _, _, _, _, _⟩) (v := ?_) rfl (by kernel_rfl) (by kernel_rfl) (by kernel_rfl) (fun _ _ _ h => h) (Or.inl ⟨by kernel_rfl, ?_⟩) hHeld ?_
              rotate_left
              focus (intro W hS; have c0' := cell_nw hS c0; have c1' := cell_nw hS c1; have c2' := cell_nw hS c2; have c3' := cell_nw hS c3; have c4' := cell_nw hS c4; have c5' := cell_nw hS c5; have c6' := cell_nw hS c6; have c7' := cell_nw hS c7; have d0' := cell_nw hS d0; have d1' := cell_nw hS d1; have d2' := cell_nw hS d2; have d3' := cell_nw hS d3; have d4' := cell_nw hS d4; have d5' := cell_nw hS d5; have d6' := cell_nw hS d6; have d7' := cell_nw hS d7; clear hS; first | (go_simp; done) | (go_simp; with_reducible rfl))
              try simp only [Act.put, List.setIfInBounds_toArray, List.set_cons_zero, List.set_cons_succ]
              refine wpAnyH_take (i := 19) (oi := ⟨some 45, _, _, _, _, _⟩) (v := ?_) rfl (by kernel_rfl) (by kernel_rfl) (by kernel_rfl) (fun _ _ _ h => h) (Or.inl ⟨by kernel_rfl, ?_⟩) hHeld ?_
              rotate_left
              focus (intro W hS; have c0' := cell_nw hS c0; have c1' := cell_nw hS c1; have c2' := cell_nw hS c2; have c3' := cell_nw hS c3; have c4' := cell_nw hS c4; have c5' := cell_nw hS c5; have c6' := cell_nw hS c6; have c7' := cell_nw hS c7; have d0' := cell_nw hS d0; have d1' := cell_nw hS d1; have d2' := cell_nw hS d2; have d3' := cell_nw hS d3; have d4' := cell_nw hS d4; have d5' := cell_nw hS d5; have d6' := cell_nw hS d6; have d7' := cell_nw hS d7; clear hS; first | (go_simp; done) | (go_simp; with_reducible rfl))
              try simp only [Act.put, List.setIfInBounds_toArray, List.set_cons_zero, List.set_cons_succ]
              refine wpAnyH_take (i := 20) (oi := ⟨some 46, _, _, _, _, _⟩) (v := ?_) rfl (by kernel_rfl) (by kernel_rfl) (by kernel_rfl) (fun _ _ _ h => h) (Or.inl ⟨by kernel_rfl, ?_⟩) hHeld ?_
              rotate_left
              focus (intro W hS; have c0' := cell_nw hS c0; have c1' := cell_nw hS c1; have c2' := cell_nw hS c2; have c3' := cell_nw hS c3; have c4' := cell_nw hS c4; have c5' := cell_nw hS c5; have c6' := cell_nw hS c6; have c7' := cell_nw hS c7; have d0' := cell_nw hS d0; have d1' := cell_nw hS d1; have d2' := cell_nw hS d2; have d3' := cell_nw hS d3; have d4' := cell_nw hS d4; have d5' := cell_nw hS d5; have d6' := cell_nw hS d6; have d7' := cell_nw hS d7; clear hS; first | (go_simp; done) | (go_simp; with_reducible rfl))
              try simp only [Act.put, List.setIfInBounds_toArray, List.set_cons_zero, List.set_cons_succ]
              refine wpAnyH_take (i := 21) (oi := ⟨some 47, _, _, _, _, _⟩) (v := ?_) rfl (by kernel_rfl) (by kernel_rfl) (by kernel_rfl) (fun _ _ _ h => h) (Or.inl ⟨by kernel_rfl, ?_⟩) hHeld ?_
              rotate_left
              focus (intro W hS; have c0' := cell_nw hS c0; have c1' := cell_nw hS c1; have c2' := cell_nw hS c2; have c3' := cell_nw hS c3; have c4' := cell_nw hS c4; have c5' := cell_nw hS c5; have c6' := cell_nw hS c6; have c7' := cell_nw hS c7; have d0' := cell_nw hS d0; have d1' := cell_nw hS d1; have d2' := cell_nw hS d2; have d3' := cell_nw hS d3; have d4' := cell_nw hS d4; have d5' := cell_nw hS d5; have d6' := cell_nw hS d6; have d7' := cell_nw hS d7; clear hS; first | (go_simp; done) | (go_simp; with_reducible rfl))
              try simp only [Act.put, List.setIfInBounds_toArray, List.set_cons_zero, List.set_cons_succ]
              refine wpAnyH_take (i := 22) (oi := ⟨some 48, _, _, _, _, _⟩) (v := ?_) rfl (by kernel_rfl) (by kernel_rfl) (by kernel_rfl) (fun _ _ _ h => h) (Or.inl ⟨by kernel_rfl, ?_⟩) hHeld ?_
              rotate_left
              focus (intro W hS; have c0' := cell_nw hS c0; have c1' := cell_nw hS c1; have c2' := cell_nw hS c2; have c3' := cell_nw hS c3; have c4' := cell_nw hS c4; have c5' := cell_nw hS c5; have c6' := cell_nw hS c6; have c7' := cell_nw hS c7; have d0' := cell_nw hS d0; have d1' := cell_nw hS d1; have d2' := cell_nw hS d2; have d3' := cell_nw hS d3; have d4' := cell_nw hS d4; have d5' := cell_nw hS d5; have d6' := cell_nw hS d6; have d7' := cell_nw hS d7; clear hS; first | (go_simp; done) | (go_simp; with_reducible rfl))
              try simp only [Act.put, List.setIfInBounds_toArray, List.set_cons_zero, List.set_cons_succ]
              refine wpAnyH_take (i := 23) (oi := ⟨some 49, _, _, _, _, _⟩) (v := ?_) rfl (by kernel_rfl) (by kernel_rfl) (by kernel_rfl) (fun _ _ _ h => h) (Or.inl ⟨by kernel_rfl, ?_⟩) hHeld ?_
              rotate_left
              focus (intro W hS; have c0' := cell_nw hS c0; have c1' := cell_nw hS c1; have c2' := cell_nw hS c2; have c3' := cell_nw hS c3; have c4' := cell_nw hS c4; have c5' := cell_nw hS c5; have c6' := cell_nw hS c6; have c7' := cell_nw hS c7; have d0' := cell_nw hS d0; have d1' := cell_nw hS d1; have d2' := cell_nw hS d2; have d3' := cell_nw hS d3; have d4' := cell_nw hS d4; have d5' := cell_nw hS d5; have d6' := cell_nw hS d6; have d7' := cell_nw hS d7; clear hS; first | (go_simp; done) | (go_simp; with_reducible rfl))
              try simp only [Act.put, List.setIfInBounds_toArray, List.set_cons_zero, List.set_cons_succ]
              refine wpAnyH_take (i := 24) (oi := ⟨some 50, _, _, _, _, _⟩) (v := ?_) rfl (by kernel_rfl) (by kernel_rfl) (by kernel_rfl) (fun _ _ _ h => h) (Or.inl ⟨by kernel_rfl, ?_⟩) hHeld ?_
              rotate_left
              focus (intro W hS; have c0' := cell_nw hS c0; have c1' := cell_nw hS c1; have c2' := cell_nw hS c2; have c3' := cell_nw hS c3; have c4' := cell_nw hS c4; have c5' := cell_nw hS c5; have c6' := cell_nw hS c6; have c7' := cell_nw hS c7; have d0' := cell_nw hS d0; have d1' := cell_nw hS d1; have d2' := cell_nw hS d2; have d3' := cell_nw hS d3; have d4' := cell_nw hS d4; have d5' := cell_nw hS d5; have d6' := cell_nw hS d6; have d7' := cell_nw hS d7; clear hS; first | (go_simp; done) | (go_simp; with_reducible rfl))
              try simp only [Act.put, List.setIfInBounds_toArray, List.set_cons_zero, List.set_cons_succ]
              refine wpAnyH_take (i := 25) (oi := ⟨some 51, _, _, _, _, _⟩) (v := ?_) rfl (by kernel_rfl) (by kernel_rfl) (by kernel_rfl) (fun _ _ _ h => h) (Or.inl ⟨by kernel_rfl, ?_⟩) hHeld ?_
              rotate_left
              focus (intro W hS; have c0' := cell_nw hS c0; have c1' := cell_nw hS c1; have c2' := cell_nw hS c2; have c3' := cell_nw hS c3; have c4' := cell_nw hS c4; have c5' := cell_nw hS c5; have c6' := cell_nw hS c6; have c7' := cell_nw hS c7; have d0' := cell_nw hS d0; have d1' := cell_nw hS d1; have d2' := cell_nw hS d2; have d3' := cell_nw hS d3; have d4' := cell_nw hS d4; have d5' := cell_nw hS d5; have d6' := cell_nw hS d6; have d7' := cell_nw hS d7; clear hS; first | (go_simp; done) | (go_simp; with_reducible rfl))
              try simp only [Act.put, List.setIfInBounds_toArray, List.set_cons_zero, List.set_cons_succ]
              refine wpAnyH_take (i := 26) (oi := ⟨some 52, _, _, _, _, _⟩) (v := ?_) rfl (by kernel_rfl) (by kernel_rfl) (by kernel_rfl) (fun _ _ _ h => h) (Or.inl ⟨by kernel_rfl, ?_⟩) hHeld ?_
              rotate_left
              focus (intro W hS; have c0' := cell_nw hS c0; have c1' := cell_nw hS c1; have c2' := cell_nw hS c2; have c3' := cell_nw hS c3; have c4' := cell_nw hS c4; have c5' := cell_nw hS c5; have c6' := cell_nw hS c6; have c7' := cell_nw hS c7; have d0' := cell_nw hS d0; have d1' := cell_nw hS d1; have d2' := cell_nw hS d2; have d3' := cell_nw hS d3; have d4' := cell_nw hS d4; have d5' := cell_nw hS d5; have d6' := cell_nw hS d6; have d7' := cell_nw hS d7; clear hS; first | (go_simp; done) | (go_simp; with_reducible rfl))
              try simp only [Act.put, List.setIfInBounds_toArray, List.set_cons_zero, List.set_cons_succ]
              refine wpAnyH_ready (rs := [27]) (by kernel_rfl) (by simp) ?_
              refine AllReadyH.cons (o := ⟨some 53, _, _, _, _, _⟩) rfl (fun K hK => ?_) AllReadyH.nil
              go_simp
              refine Calls.mono (C2.out _) ?_
              rintro e x3 ⟨rfl, hb1⟩
              refine hK.out _ _ (below_trans hHeld hb1 (Nat.le_refl _)) (fun hHeld' => ?_)
              clear hK K hHeld hb1
              have hHeld := hHeld'
              clear hHeld'
              try simp only [Act.put, List.setIfInBounds_toArray, List.set_cons_zero, List.set_cons_succ]
              cases r2
              · skip
                refine wpAnyH_take (i := 28) (oi := ⟨some 54, _, _, _, _, _⟩) (v := ?_) rfl (by kernel_rfl) (by kernel_rfl) (by kernel_rfl) (fun _ _ _ h => h) (Or.inl ⟨by kernel_rfl, ?_⟩) hHeld ?_
                rotate_left
                focus (intro W hS; have c0' := cell_nw hS c0; have c1' := cell_nw hS c1; have c2' := cell_nw hS c2; have c3' := cell_nw hS c3; have c4' := cell_nw hS c4; have c5' := cell_nw hS c5; have c6' := cell_nw hS c6; have c7' := cell_nw hS c7; have d0' := cell_nw hS d0; have d1' := cell_nw hS d1; have d2' := cell_nw hS d2; have d3' := cell_nw hS d3; have d4' := cell_nw hS d4; have d5' := cell_nw hS d5; have d6' := cell_nw hS d6; have d7' := cell_nw hS d7; clear hS; first | (go_simp; done) | (go_simp; with_reducible rfl))
                try simp only [Act.put, List.setIfInBounds_toArray, List.set_cons_zero, List.set_cons_succ]
                refine wpAnyH_take (i := 29) (oi := ⟨some 55, _, _, _, _, _⟩) (v := ?_) rfl (by kernel_rfl) (by kernel_rfl) (by kernel_rfl) (fun _ _ _ h => h) (Or.inl ⟨by kernel_rfl, ?_⟩) hHeld ?_
                rotate_left
                focus (intro W hS; have c0' := cell_nw hS c0; have c1' := cell_nw hS c1; have c2' := cell_nw hS c2; have c3' := cell_nw hS c3; have c4' := cell_nw hS c4; have c5' := cell_nw hS c5; have c6' := cell_nw hS c6; have c7' := cell_nw hS c7; have d0' := cell_nw hS d0; have d1' := cell_nw hS d1; have d2' := cell_nw hS d2; have d3' := cell_nw hS d3; have d4' := cell_nw hS d4; have d5' := cell_nw hS d5; have d6' := cell_nw hS d6; have d7' := cell_nw hS d7; clear hS; first | (go_simp; done) | (go_simp; with_reducible rfl))
                try simp only [Act.put, List.setIfInBounds_toArray, List.set_cons_zero, List.set_cons_succ]
                refine wpAnyH_take (i := 30) (oi := ⟨some 56, _, _, _, _, _⟩) (v := undef) rfl (by kernel_rfl) (by kernel_rfl) (by kernel_rfl) (fun _ _ _ h => h) (Or.inr ⟨by kernel_rfl, rfl⟩) hHeld ?_
                try simp only [Act.put, List.setIfInBounds_toArray, List.set_cons_zero, List.set_cons_succ]
                refine wpAnyH_take (i := 31) (oi := ⟨some 57, _, _, _, _, _⟩) (v := undef) rfl (by kernel_rfl) (by kernel_rfl) (by kernel_rfl) (fun _ _ _ h => h) (Or.inr ⟨by kernel_rfl, rfl⟩) hHeld ?_
                try simp only [Act.put, List.setIfInBounds_toArray, List.set_cons_zero, List.set_cons_succ]
                refine wpAnyH_take (i := 32) (oi := ⟨some 58, _, _, _, _, _⟩) (v := undef) rfl (by kernel_rfl) (by kernel_rfl) (by kernel_rfl) (fun _ _ _ h => h) (Or.inr ⟨by kernel_rfl, rfl⟩) hHeld ?_
                try simp only [Act.put, List.setIfInBounds_toArray, List.set_cons_zero, List.set_cons_succ]
                refine wpAnyH_take (i := 33) (oi := ⟨some 59, _, _, _, _, _⟩) (v := undef) rfl (by kernel_rfl) (by kernel_rfl) (by kernel_rfl) (fun _ _ _ h => h) (Or.inr ⟨by kernel_rfl, rfl⟩) hHeld ?_
                try simp only [Act.put, List.setIfInBounds_toArray, List.set_cons_zero, List.set_cons_succ]
                refine wpAnyH_take (i := 34) (oi := ⟨some 60, _, _, _, _, _⟩) (v := undef) rfl (by kernel_rfl) (by kernel_rfl) (by kernel_rfl) (fun _ _ _ h => h) (Or.inr ⟨by kernel_rfl, rfl⟩) hHeld ?_
                try simp only [Act.put, List.setIfInBounds_toArray, List.set_cons_zero, List.set_cons_succ]
                refine wpAnyH_take (i := 35) (oi := ⟨some 61, _, _, _, _, _⟩) (v := undef) rfl (by kernel_rfl) (by kernel_rfl) (by kernel_rfl) (fun _ _ _ h => h) (Or.inr ⟨by kernel_rfl, rfl⟩) hHeld ?_
                try simp only [Act.put, List.setIfInBounds_toArray, List.set_cons_zero, List.set_cons_succ]
                refine wpAnyH_take (i := 36) (oi := ⟨some 62, _, _, _, _, _⟩) (v := undef) rfl (by kernel_rfl) (by kernel_rfl) (by kernel_rfl) (fun _ _ _ h => h) (Or.inr ⟨by kernel_rfl, rfl⟩) hHeld ?_
                try simp only [Act.put, List.setIfInBounds_toArray, List.set_cons_zero, List.set_cons_succ]
                refine wpAnyH_take (i := 37) (oi := ⟨some 63, _, _, _, _, _⟩) (v := undef) rfl (by kernel_rfl) (by kernel_rfl) (by kernel_rfl) (fun _ _ _ h => h) (Or.inr ⟨by kernel_rfl, rfl⟩) hHeld ?_
                try simp only [Act.put, List.setIfInBounds_toArray, List.set_cons_zero, List.set_cons_succ]
                refine wpAnyH_take (i := 38) (oi := ⟨some 64, _, _, _, _, _⟩) (v := undef) rfl (by kernel_rfl) (by kernel_rfl) (by kernel_rfl) (fun _ _ _ h => h) (Or.inr ⟨by kernel_rfl, rfl⟩) hHeld ?_
                try simp only [Act.put, List.setIfInBounds_toArray, List.set_cons_zero, List.set_cons_succ]
                refine wpAnyH_take (i := 39) (oi := ⟨some 65, _, _, _, _, _⟩) (v := undef) rfl (by kernel_rfl) (by kernel_rfl) (by kernel_rfl) (fun _ _ _ h => h) (Or.inr ⟨by kernel_rfl, rfl⟩) hHeld ?_
                try simp only [Act.put, List.setIfInBounds_toArray, List.set_cons_zero, List.set_cons_succ]
                refine wpAnyH_take (i := 40) (oi := ⟨some 66, _, _, _, _, _⟩) (v := undef) rfl (by kernel_rfl) (by kernel_rfl) (by kernel_rfl) (fun _ _ _ h => h) (Or.inr ⟨by kernel_rfl, rfl⟩) hHeld ?_
                try simp only [Act.put, List.setIfInBounds_toArray, List.set_cons_zero, List.set_cons_succ]
                refine wpAnyH_take (i := 41) (oi := ⟨some 67, _, _, _, _, _⟩) (v := undef) rfl (by kernel_rfl) (by kernel_rfl) (by kernel_rfl) (fun _ _ _ h => h) (Or.inr ⟨by kernel_rfl, rfl⟩) hHeld ?_
                try simp only [Act.put, List.setIfInBounds_toArray, List.set_cons_zero, List.set_cons_succ]
                refine wpAnyH_take (i := 42) (oi := ⟨some 68, _, _, _, _, _⟩) (v := undef) rfl (by kernel_rfl) (by kernel_rfl) (by kernel_rfl) (fun _ _ _ h => h) (Or.inr ⟨by kernel_rfl, rfl⟩) hHeld ?_
                try simp only [Act.put, List.setIfInBounds_toArray, List.set_cons_zero, List.set_cons_succ]
                refine wpAnyH_take (i := 43) (oi := ⟨some 69, _, _, _, _, _⟩) (v := undef) rfl (by kernel_rfl) (by kernel_rfl) (by kernel_rfl) (fun _ _ _ h => h) (Or.inr ⟨by kernel_rfl, rfl⟩) hHeld ?_
                try simp only [Act.put, List.setIfInBounds_toArray, List.set_cons_zero, List.set_cons_succ]
                refine wpAnyH_take (i := 44) (oi := ⟨some 70, _, _, _, _, _⟩) (v := undef) rfl (by kernel_rfl) (by kernel_rfl) (by kernel_rfl) (fun _ _ _ h => h) (Or.inr ⟨by kernel_rfl, rfl⟩) hHeld ?_
                try simp only [Act.put, List.setIfInBounds_toArray, List.set_cons_zero, List.set_cons_succ]
                refine wpAnyH_take (i := 45) (oi := ⟨some 71, _, _, _, _, _⟩) (v := undef) rfl (by kernel_rfl) (by kernel_rfl) (by kernel_rfl) (fun _ _ _ h => h) (Or.inr ⟨by kernel_rfl, rfl⟩) hHeld ?_
                try simp only [Act.put, List.setIfInBounds_toArray, List.set_cons_zero, List.set_cons_succ]
                refine wpAnyH_take (i := 46) (oi := ⟨some 72, _, _, _, _, _⟩) (v := undef) rfl (by kernel_rfl) (by kernel_rfl) (by kernel_rfl) (fun _ _ _ h => h) (Or.inr ⟨by kernel_rfl, rfl⟩) hHeld ?_
                try simp only [Act.put, List.setIfInBounds_toArray, List.set_cons_zero, List.set_cons_succ]
                refine wpAnyH_take (i := 47) (oi := ⟨some 73, _, _, _, _, _⟩) (v := undef) rfl (by kernel_rfl) (by kernel_rfl) (by kernel_rfl) (fun _ _ _ h => h) (Or.inr ⟨by kernel_rfl, rfl⟩) hHeld ?_
                try simp only [Act.put, List.setIfInBounds_toArray, List.set_cons_zero, List.set_cons_succ]
                refine wpAnyH_take (i := 48) (oi := ⟨some 74, _, _, _, _, _⟩) (v := undef) rfl (by kernel_rfl) (by kernel_rfl) (by kernel_rfl) (fun _ _ _ h => h) (Or.inr ⟨by kernel_rfl, rfl⟩) hHeld ?_
                try simp only [Act.put, List.setIfInBounds_toArray, List.set_cons_zero, List.set_cons_succ]
                refine wpAnyH_take (i := 49) (oi := ⟨some 75, _, _, _, _, _⟩) (v := ?_) rfl (by kernel_rfl) (by kernel_rfl) (by kernel_rfl) (fun _ _ _ h => h) (Or.inl ⟨by kernel_rfl, ?_⟩) hHeld ?_
                rotate_left
                focus (intro W hS; have c0' := cell_nw hS c0; have c1' := cell_nw hS c1; have c2' := cell_nw hS c2; have c3' := cell_nw hS c3; have c4' := cell_nw hS c4; have c5' := cell_nw hS c5; have c6' := cell_nw hS c6; have c7' := cell_nw hS c7; have d0' := cell_nw hS d0; have d1' := cell_nw hS d1; have d2' := cell_nw hS d2; have d3' := cell_nw hS d3; have d4' := cell_nw hS d4; have d5' := cell_nw hS d5; have d6' := cell_nw hS d6; have d7' := cell_nw hS d7; clear hS; first | (go_simp; done) | (go_simp; with_reducible rfl))
                try simp only [Act.put, List.setIfInBounds_toArray, List.set_cons_zero, List.set_cons_succ]
                refine wpAnyH_done (by kernel_rfl) ?_ _
                have HE := Lib.hid (HN.out (by rw [HQ.out]; simp [mTakes]))
                have HBn := Lib.hid (below_trans HB.out hHeld (Nat.le_refl _))
                clear hHeld
                go_wp2_with fail
                go_roundg (n - (m + 1))
                case measure => omega
                case rel => exact ⟨m + 1, by omega, by omega, by go_num, HE, HBn⟩
              · skip
                refine wpAnyH_take (i := 28) (oi := ⟨some 54, _, _, _, _, _⟩) (v := ?_) rfl (by kernel_rfl) (by kernel_rfl) (by kernel_rfl) (fun _ _ _ h => h) (Or.inl ⟨by kernel_rfl, ?_⟩) hHeld ?_
                rotate_left
                focus (intro W hS; have c0' := cell_nw hS c0; have c1' := cell_nw hS c1; have c2' := cell_nw hS c2; have c3' := cell_nw hS c3; have c4' := cell_nw hS c4; have c5' := cell_nw hS c5; have c6' := cell_nw hS c6; have c7' := cell_nw hS c7; have d0' := cell_nw hS d0; have d1' := cell_nw hS d1; have d2' := cell_nw hS d2; have d3' := cell_nw hS d3; have d4' := cell_nw hS d4; have d5' := cell_nw hS d5; have d6' := cell_nw hS d6; have d7' := cell_nw hS d7; clear hS; first | (go_simp; done) | (go_simp; with_reducible rfl))
                try simp only [Act.put, List.setIfInBounds_toArray, List.set_cons_zero, List.set_cons_succ]
                refine wpAnyH_take (i := 29) (oi := ⟨some 55, _, _, _, _, _⟩) (v := ?_) rfl (by kernel_rfl) (by kernel_rfl) (by kernel_rfl) (fun _ _ _ h => h) (Or.inl ⟨by kernel_rfl, ?_⟩) hHeld ?_
                rotate_left
                focus (intro W hS; have c0' := cell_nw hS c0; have c1' := cell_nw hS c1; have c2' := cell_nw hS c2; have c3' := cell_nw hS c3; have c4' := cell_nw hS c4; have c5' := cell_nw hS c5; have c6' := cell_nw hS c6; have c7' := cell_nw hS c7; have d0' := cell_nw hS d0; have d1' := cell_nw hS d1; have d2' := cell_nw hS d2; have d3' := cell_nw hS d3; have d4' := cell_nw hS d4; have d5' := cell_nw hS d5; have d6' := cell_nw hS d6; have d7' := cell_nw hS d7; clear hS; first | (go_simp; done) | (go_simp; with_reducible rfl))
                try simp only [Act.put, List.setIfInBounds_toArray, List.set_cons_zero, List.set_cons_succ]
                refine wpAnyH_take (i := 30) (oi := ⟨some 56, _, _, _, _, _⟩) (v := ?_) rfl (by kernel_rfl) (by kernel_rfl) (by kernel_rfl) (fun _ _ _ h => h) (Or.inl ⟨by kernel_rfl, ?_⟩) hHeld ?_
                rotate_left
                focus (intro W hS; have c0' := cell_nw hS c0; have c1' := cell_nw hS c1; have c2' := cell_nw hS c2; have c3' := cell_nw hS c3; have c4' := cell_nw hS c4; have c5' := cell_nw hS c5; have c6' := cell_nw hS c6; have c7' := cell_nw hS c7; have d0' := cell_nw hS d0; have d1' := cell_nw hS d1; have d2' := cell_nw hS d2; have d3' := cell_nw hS d3; have d4' := cell_nw hS d4; have d5' := cell_nw hS d5; have d6' := cell_nw hS d6; have d7' := cell_nw hS d7; clear hS; first | (go_simp; done) | (go_simp; with_reducible rfl))
                try simp only [Act.put, List.setIfInBounds_toArray, List.set_cons_zero, List.set_cons_succ]
                refine wpAnyH_take (i := 31) (oi := ⟨some 57, _, _, _, _, _⟩) (v := ?_) rfl (by kernel_rfl) (by kernel_rfl) (by kernel_rfl) (fun _ _ _ h => h) (Or.inl ⟨by kernel_rfl, ?_⟩) hHeld ?_
                rotate_left
                focus (intro W hS; have c0' := cell_nw hS c0; have c1' := cell_nw hS c1; have c2' := cell_nw hS c2; have c3' := cell_nw hS c3; have c4' := cell_nw hS c4; have c5' := cell_nw hS c5; have c6' := cell_nw hS c6; have c7' := cell_nw hS c7; have d0' := cell_nw hS d0; have d1' := cell_nw hS d1; have d2' := cell_nw hS d2; have d3' := cell_nw hS d3; have d4' := cell_nw hS d4; have d5' := cell_nw hS d5; have d6' := cell_nw hS d6; have d7' := cell_nw hS d7; clear hS; first | (go_simp; done) | (go_simp; with_reducible rfl))
                try simp only [Act.put, List.setIfInBounds_toArray, List.set_cons_zero, List.set_cons_succ]
                refine wpAnyH_take (i := 32) (oi := ⟨some 58, _, _, _, _, _⟩) (v := ?_) rfl (by kernel_rfl) (by kernel_rfl) (by kernel_rfl) (fun _ _ _ h => h) (Or.inl ⟨by kernel_rfl, ?_⟩) hHeld ?_
                rotate_left
                focus (intro W hS; have c0' := cell_nw hS c0; have c1' := cell_nw hS c1; have c2' := cell_nw hS c2; have c3' := cell_nw hS c3; have c4' := cell_nw hS c4; have c5' := cell_nw hS c5; have c6' := cell_nw hS c6; have c7' := cell_nw hS c7; have d0' := cell_nw hS d0; have d1' := cell_nw hS d1; have d2' := cell_nw hS d2; have d3' := cell_nw hS d3; have d4' := cell_nw hS d4; have d5' := cell_nw hS d5; have d6' := cell_nw hS d6; have d7' := cell_nw hS d7; clear hS; first | (go_simp; done) | (go_simp; with_reducible rfl))
                try simp only [Act.put, List.setIfInBounds_toArray, List.set_cons_zero, List.set_cons_succ]
                refine wpAnyH_take (i := 33) (oi := ⟨some 59, _, _, _, _, _⟩) (v := ?_) rfl (by kernel_rfl) (by kernel_rfl) (by kernel_rfl) (fun _ _ _ h => h) (Or.inl ⟨by kernel_rfl, ?_⟩) hHeld ?_
                rotate_left
                focus (intro W hS; have c0' := cell_nw hS c0; have c1' := cell_nw hS c1; have c2' := cell_nw hS c2; have c3' := cell_nw hS c3; have c4' := cell_nw hS c4; have c5' := cell_nw hS c5; have c6' := cell_nw hS c6; have c7' := cell_nw hS c7; have d0' := cell_nw hS d0; have d1' := cell_nw hS d1; have d2' := cell_nw hS d2; have d3' := cell_nw hS d3; have d4' := cell_nw hS d4; have d5' := cell_nw hS d5; have d6' := cell_nw hS d6; have d7' := cell_nw hS d7; clear hS; first | (go_simp; done) | (go_simp; with_reducible rfl))
                try simp only [Act.put, List.setIfInBounds_toArray, List.set_cons_zero, List.set_cons_succ]
                refine wpAnyH_take (i := 34) (oi := ⟨some 60, _, _, _, _, _⟩) (v := ?_) rfl (by kernel_rfl) (by kernel_rfl) (by kernel_rfl) (fun _ _ _ h => h) (Or.inl ⟨by kernel_rfl, ?_⟩) hHeld ?_
                rotate_left
                focus (intro W hS; have c0' := cell_nw hS c0; have c1' := cell_nw hS c1; have c2' := cell_nw hS c2; have c3' := cell_nw hS c3; have c4' := cell_nw hS c4; have c5' := cell_nw hS c5; have c6' := cell_nw hS c6; have c7' := cell_nw hS c7; have d0' := cell_nw hS d0; have d1' := cell_nw hS d1; have d2' := cell_nw hS d2; have d3' := cell_nw hS d3; have d4' := cell_nw hS d4; have d5' := cell_nw hS d5; have d6' := cell_nw hS d6; have d7' := cell_nw hS d7; clear hS; first | (go_simp; done) | (go_simp; with_reducible rfl))
                try simp only [Act.put, List.setIfInBounds_toArray, List.set_cons_zero, List.set_cons_succ]
                by_cases e0 : (y.f4 == 0) = true
                · skip
                  refine wpAnyH_take (i := 35) (oi := ⟨some 61, _, _, _, _, _⟩) (v := ?_) rfl (by kernel_rfl) (by kernel_rfl) (by kernel_rfl) (fun _ _ _ h => h) (Or.inl ⟨by kernel_rfl, ?_⟩) hHeld ?_
                  rotate_left
                  focus (intro W hS; have c0' := cell_nw hS c0; have c1' := cell_nw hS c1; have c2' := cell_nw hS c2; have c3' := cell_nw hS c3; have c4' := cell_nw hS c4; have c5' := cell_nw hS c5; have c6' := cell_nw hS c6; have c7' := cell_nw hS c7; have d0' := cell_nw hS d0; have d1' := cell_nw hS d1; have d2' := cell_nw hS d2; have d3' := cell_nw hS d3; have d4' := cell_nw hS d4; have d5' := cell_nw hS d5; have d6' := cell_nw hS d6; have d7' := cell_nw hS d7; clear hS; first | (go_simp; done) | (go_simp; with_reducible rfl))
                  try simp only [Act.put, List.setIfInBounds_toArray, List.set_cons_zero, List.set_cons_succ]
                  refine wpAnyH_take (i := 36) (oi := ⟨some 62, _, _, _, _, _⟩) (v := ?_) rfl (by kernel_rfl) (by kernel_rfl) (by kernel_rfl) (fun _ _ _ h => h) (Or.inl ⟨by kernel_rfl, ?_⟩) hHeld ?_
                  rotate_left
                  focus (intro W hS; have c0' := cell_nw hS c0; have c1' := cell_nw hS c1; have c2' := cell_nw hS c2; have c3' := cell_nw hS c3; have c4' := cell_nw hS c4; have c5' := cell_nw hS c5; have c6' := cell_nw hS c6; have c7' := cell_nw hS c7; have d0' := cell_nw hS d0; have d1' := cell_nw hS d1; have d2' := cell_nw hS d2; have d3' := cell_nw hS d3; have d4' := cell_nw hS d4; have d5' := cell_nw hS d5; have d6' := cell_nw hS d6; have d7' := cell_nw hS d7; clear hS; first | (go_simp; done) | (go_simp; with_reducible rfl))
                  try simp only [Act.put, List.setIfInBounds_toArray, List.set_cons_zero, List.set_cons_succ]
                  refine wpAnyH_take (i := 37) (oi := ⟨some 63, _, _, _, _, _⟩) (v := undef) rfl (by kernel_rfl) (by kernel_rfl) (by kernel_rfl) (fun _ _ _ h => h) (Or.inr ⟨by kernel_rfl, rfl⟩) hHeld ?_
                  try simp only [Act.put, List.setIfInBounds_toArray, List.set_cons_zero, List.set_cons_succ]
                  refine wpAnyH_take (i := 38) (oi := ⟨some 64, _, _, _, _, _⟩) (v := undef) rfl (by kernel_rfl) (by kernel_rfl) (by kernel_rfl) (fun _ _ _ h => h) (Or.inr ⟨by kernel_rfl, rfl⟩) hHeld ?_
                  try simp only [Act.put, List.setIfInBounds_toArray, List.set_cons_zero, List.set_cons_succ]
                  refine wpAnyH_take (i := 39) (oi := ⟨some 65, _, _, _, _, _⟩) (v := undef) rfl (by kernel_rfl) (by kernel_rfl) (by kernel_rfl) (fun _ _ _ h => h) (Or.inr ⟨by kernel_rfl, rfl⟩) hHeld ?_
                  try simp only [Act.put, List.setIfInBounds_toArray, List.set_cons_zero, List.set_cons_succ]
                  refine wpAnyH_take (i := 40) (oi := ⟨some 66, _, _, _, _, _⟩) (v := undef) rfl (by kernel_rfl) (by kernel_rfl) (by kernel_rfl) (fun _ _ _ h => h) (Or.inr ⟨by kernel_rfl, rfl⟩) hHeld ?_
                  try simp only [Act.put, List.setIfInBounds_toArray, List.set_cons_zero, List.set_cons_succ]
                  refine wpAnyH_take (i := 41) (oi := ⟨some 67, _, _, _, _, _⟩) (v := undef) rfl (by kernel_rfl) (by kernel_rfl) (by kernel_rfl) (fun _ _ _ h => h) (Or.inr ⟨by kernel_rfl, rfl⟩) hHeld ?_
                  try simp only [Act.put, List.setIfInBounds_toArray, List.set_cons_zero, List.set_cons_succ]
                  refine wpAnyH_take (i := 42) (oi := ⟨some 68, _, _, _, _, _⟩) (v := undef) rfl (by kernel_rfl) (by kernel_rfl) (by kernel_rfl) (fun _ _ _ h => h) (Or.inr ⟨by kernel_rfl, rfl⟩) hHeld ?_
                  try simp only [Act.put, List.setIfInBounds_toArray, List.set_cons_zero, List.set_cons_succ]
                  refine wpAnyH_take (i := 43) (oi := ⟨some 69, _, _, _, _, _⟩) (v := undef) rfl (by kernel_rfl) (by kernel_rfl) (by kernel_rfl) (fun _ _ _ h => h) (Or.inr ⟨by kernel_rfl, rfl⟩) hHeld ?_
                  try simp only [Act.put, List.setIfInBounds_toArray, List.set_cons_zero, List.set_cons_succ]
                  refine wpAnyH_take (i := 44) (oi := ⟨some 70, _, _, _, _, _⟩) (v := undef) rfl (by kernel_rfl) (by kernel_rfl) (by kernel_rfl) (fun _ _ _ h => h) (Or.inr ⟨by kernel_rfl, rfl⟩) hHeld ?_
                  try simp only [Act.put, List.setIfInBounds_toArray, List.set_cons_zero, List.set_cons_succ]
                  refine wpAnyH_take (i := 45) (oi := ⟨some 71, _, _, _, _, _⟩) (v := undef) rfl (by kernel_rfl) (by kernel_rfl) (by kernel_rfl) (fun _ _ _ h => h) (Or.inr ⟨by kernel_rfl, rfl⟩) hHeld ?_
                  try simp only [Act.put, List.setIfInBounds_toArray, List.set_cons_zero, List.set_cons_succ]
                  refine wpAnyH_take (i := 46) (oi := ⟨some 72, _, _, _, _, _⟩) (v := undef) rfl (by kernel_rfl) (by kernel_rfl) (by kernel_rfl) (fun _ _ _ h => h) (Or.inr ⟨by kernel_rfl, rfl⟩) hHeld ?_
                  try simp only [Act.put, List.setIfInBounds_toArray, List.set_cons_zero, List.set_cons_succ]
                  refine wpAnyH_take (i := 47) (oi := ⟨some 73, _, _, _, _, _⟩) (v := undef) rfl (by kernel_rfl) (by kernel_rfl) (by kernel_rfl) (fun _ _ _ h => h) (Or.inr ⟨by kernel_rfl, rfl⟩) hHeld ?_
                  try simp only [Act.put, List.setIfInBounds_toArray, List.set_cons_zero, List.set_cons_succ]
                  refine wpAnyH_take (i := 48) (oi := ⟨some 74, _, _, _, _, _⟩) (v := ?_) rfl (by kernel_rfl) (by kernel_rfl) (by kernel_rfl) (fun _ _ _ h => h) (Or.inl ⟨by kernel_rfl, ?_⟩) hHeld ?_
                  rotate_left
                  focus (intro W hS; have c0' := cell_nw hS c0; have c1' := cell_nw hS c1; have c2' := cell_nw hS c2; have c3' := cell_nw hS c3; have c4' := cell_nw hS c4; have c5' := cell_nw hS c5; have c6' := cell_nw hS c6; have c7' := cell_nw hS c7; have d0' := cell_nw hS d0; have d1' := cell_nw hS d1; have d2' := cell_nw hS d2; have d3' := cell_nw hS d3; have d4' := cell_nw hS d4; have d5' := cell_nw hS d5; have d6' := cell_nw hS d6; have d7' := cell_nw hS d7; clear hS; first | (go_simp; done) | (go_simp; with_reducible rfl))
                  try simp only [Act.put, List.setIfInBounds_toArray, List.set_cons_zero, List.set_cons_succ]
                  refine wpAnyH_take (i := 49) (oi := ⟨some 75, _, _, _, _, _⟩) (v := ?_) rfl (by kernel_rfl) (by kernel_rfl) (by kernel_rfl) (fun _ _ _ h => h) (Or.inl ⟨by kernel_rfl, ?_⟩) hHeld ?_
                  rotate_left
                  focus (intro W hS; have c0' := cell_nw hS c0; have c1' := cell_nw hS c1; have c2' := cell_nw hS c2; have c3' := cell_nw hS c3; have c4' := cell_nw hS c4; have c5' := cell_nw hS c5; have c6' := cell_nw hS c6; have c7' := cell_nw hS c7; have d0' := cell_nw hS d0; have d1' := cell_nw hS d1; have d2' := cell_nw hS d2; have d3' := cell_nw hS d3; have d4' := cell_nw hS d4; have d5' := cell_nw hS d5; have d6' := cell_nw hS d6; have d7' := cell_nw hS d7; clear hS; first | (go_simp; done) | (go_simp; with_reducible rfl))
                  try simp only [Act.put, List.setIfInBounds_toArray, List.set_cons_zero, List.set_cons_succ]
                  refine wpAnyH_done (by kernel_rfl) ?_ _
                  have HE := Lib.hid (HT.out (by rw [HQ.out]; simp [mTakes, e0]))
                  go_wp2_with fail
                  go_ret
                  exact ⟨by rw [HE.out]; rfl, below_trans HB.out hHeld (Nat.le_refl _)⟩
                · have e0 : (y.f4 == 0) = false := by simpa using e0
                  refine wpAnyH_take (i := 35) (oi := ⟨some 61, _, _, _, _, _⟩) (v := ?_) rfl (by kernel_rfl) (by kernel_rfl) (by kernel_rfl) (fun _ _ _ h => h) (Or.inl ⟨by kernel_rfl, ?_⟩) hHeld ?_
                  rotate_left
                  focus (intro W hS; have c0' := cell_nw hS c0; have c1' := cell_nw hS c1; have c2' := cell_nw hS c2; have c3' := cell_nw hS c3; have c4' := cell_nw hS c4; have c5' := cell_nw hS c5; have c6' := cell_nw hS c6; have c7' := cell_nw hS c7; have d0' := cell_nw hS d0; have d1' := cell_nw hS d1; have d2' := cell_nw hS d2; have d3' := cell_nw hS d3; have d4' := cell_nw hS d4; have d5' := cell_nw hS d5; have d6' := cell_nw hS d6; have d7' := cell_nw hS d7; clear hS; first | (go_simp; done) | (go_simp; with_reducible rfl))
                  try simp only [Act.put, List.setIfInBounds_toArray, List.set_cons_zero, List.set_cons_succ]
                  refine wpAnyH_take (i := 36) (oi := ⟨some 62, _, _, _, _, _⟩) (v := ?_) rfl (by kernel_rfl) (by kernel_rfl) (by kernel_rfl) (fun _ _ _ h => h) (Or.inl ⟨by kernel_rfl, ?_⟩) hHeld ?_
                  rotate_left
                  focus (intro W hS; have c0' := cell_nw hS c0; have c1' := cell_nw hS c1; have c2' := cell_nw hS c2; have c3' := cell_nw hS c3; have c4' := cell_nw hS c4; have c5' := cell_nw hS c5; have c6' := cell_nw hS c6; have c7' := cell_nw hS c7; have d0' := cell_nw hS d0; have d1' := cell_nw hS d1; have d2' := cell_nw hS d2; have d3' := cell_nw hS d3; have d4' := cell_nw hS d4; have d5' := cell_nw hS d5; have d6' := cell_nw hS d6; have d7' := cell_nw hS d7; clear hS; first | (go_simp; done) | (go_simp; with_reducible rfl))
                  try simp only [Act.put, List.setIfInBounds_toArray, List.set_cons_zero, List.set_cons_succ]
                  refine wpAnyH_take (i := 37) (oi := ⟨some 63, _, _, _, _, _⟩) (v := ?_) rfl (by kernel_rfl) (by kernel_rfl) (by kernel_rfl) (fun _ _ _ h => h) (Or.inl ⟨by kernel_rfl, ?_⟩) hHeld ?_
                  rotate_left
                  focus (intro W hS; have c0' := cell_nw hS c0; have c1' := cell_nw hS c1; have c2' := cell_nw hS c2; have c3' := cell_nw hS c3; have c4' := cell_nw hS c4; have c5' := cell_nw hS c5; have c6' := cell_nw hS c6; have c7' := cell_nw hS c7; have d0' := cell_nw hS d0; have d1' := cell_nw hS d1; have d2' := cell_nw hS d2; have d3' := cell_nw hS d3; have d4' := cell_nw hS d4; have d5' := cell_nw hS d5; have d6' := cell_nw hS d6; have d7' := cell_nw hS d7; clear hS; first | (go_simp; done) | (go_simp; with_reducible rfl))
                  try simp only [Act.put, List.setIfInBounds_toArray, List.set_cons_zero, List.set_cons_succ]
                  refine wpAnyH_take (i := 38) (oi := ⟨some 64, _, _, _, _, _⟩) (v := ?_) rfl (by kernel_rfl) (by kernel_rfl) (by kernel_rfl) (fun _ _ _ h => h) (Or.inl ⟨by kernel_rfl, ?_⟩) hHeld ?_
                  rotate_left
                  focus (intro W hS; have c0' := cell_nw hS c0; have c1' := cell_nw hS c1; have c2' := cell_nw hS c2; have c3' := cell_nw hS c3; have c4' := cell_nw hS c4; have c5' := cell_nw hS c5; have c6' := cell_nw hS c6; have c7' := cell_nw hS c7; have d0' := cell_nw hS d0; have d1' := cell_nw hS d1; have d2' := cell_nw hS d2; have d3' := cell_nw hS d3; have d4' := cell_nw hS d4; have d5' := cell_nw hS d5; have d6' := cell_nw hS d6; have d7' := cell_nw hS d7; clear hS; first | (go_simp; done) | (go_simp; with_reducible rfl))
                  try simp only [Act.put, List.setIfInBounds_toArray, List.set_cons_zero, List.set_cons_succ]
                  refine wpAnyH_take (i := 39) (oi := ⟨some 65, _, _, _, _, _⟩) (v := ?_) rfl (by kernel_rfl) (by kernel_rfl) (by kernel_rfl) (fun _ _ _ h => h) (Or.inl ⟨by kernel_rfl, ?_⟩) hHeld ?_
                  rotate_left
                  focus (intro W hS; have c0' := cell_nw hS c0; have c1' := cell_nw hS c1; have c2' := cell_nw hS c2; have c3' := cell_nw hS c3; have c4' := cell_nw hS c4; have c5' := cell_nw hS c5; have c6' := cell_nw hS c6; have c7' := cell_nw hS c7; have d0' := cell_nw hS d0; have d1' := cell_nw hS d1; have d2' := cell_nw hS d2; have d3' := cell_nw hS d3; have d4' := cell_nw hS d4; have d5' := cell_nw hS d5; have d6' := cell_nw hS d6; have d7' := cell_nw hS d7; clear hS; first | (go_simp; done) | (go_simp; with_reducible rfl))
                  try simp only [Act.put, List.setIfInBounds_toArray, List.set_cons_zero, List.set_cons_succ]
                  refine wpAnyH_take (i := 40) (oi := ⟨some 66, _, _, _, _, _⟩) (v := ?_) rfl (by kernel_rfl) (by kernel_rfl) (by kernel_rfl) (fun _ _ _ h => h) (Or.inl ⟨by kernel_rfl, ?_⟩) hHeld ?_
                  rotate_left
                  focus (intro W hS; have c0' := cell_nw hS c0; have c1' := cell_nw hS c1; have c2' := cell_nw hS c2; have c3' := cell_nw hS c3; have c4' := cell_nw hS c4; have c5' := cell_nw hS c5; have c6' := cell_nw hS c6; have c7' := cell_nw hS c7; have d0' := cell_nw hS d0; have d1' := cell_nw hS d1; have d2' := cell_nw hS d2; have d3' := cell_nw hS d3; have d4' := cell_nw hS d4; have d5' := cell_nw hS d5; have d6' := cell_nw hS d6; have d7' := cell_nw hS d7; clear hS; first | (go_simp; done) | (go_simp; with_reducible rfl))
                  try simp only [Act.put, List.setIfInBounds_toArray, List.set_cons_zero, List.set_cons_succ]
                  refine wpAnyH_take (i := 41) (oi := ⟨some 67, _, _, _, _, _⟩) (v := ?_) rfl (by kernel_rfl) (by kernel_rfl) (by kernel_rfl) (fun _ _ _ h => h) (Or.inl ⟨by kernel_rfl, ?_⟩) hHeld ?_
                  rotate_left
                  focus (intro W hS; have c0' := cell_nw hS c0; have c1' := cell_nw hS c1; have c2' := cell_nw hS c2; have c3' := cell_nw hS c3; have c4' := cell_nw hS c4; have c5' := cell_nw hS c5; have c6' := cell_nw hS c6; have c7' := cell_nw hS c7; have d0' := cell_nw hS d0; have d1' := cell_nw hS d1; have d2' := cell_nw hS d2; have d3' := cell_nw hS d3; have d4' := cell_nw hS d4; have d5' := cell_nw hS d5; have d6' := cell_nw hS d6; have d7' := cell_nw hS d7; clear hS; first | (go_simp; done) | (go_simp; with_reducible rfl))
                  try simp only [Act.put, List.setIfInBounds_toArray, List.set_cons_zero, List.set_cons_succ]
                  refine wpAnyH_take (i := 42) (oi := ⟨some 68, _, _, _, _, _⟩) (v := ?_) rfl (by kernel_rfl) (by kernel_rfl) (by kernel_rfl) (fun _ _ _ h => h) (Or.inl ⟨by kernel_rfl, ?_⟩) hHeld ?_
                  rotate_left
                  focus (intro W hS; have c0' := cell_nw hS c0; have c1' := cell_nw hS c1; have c2' := cell_nw hS c2; have c3' := cell_nw hS c3; have c4' := cell_nw hS c4; have c5' := cell_nw hS c5; have c6' := cell_nw hS c6; have c7' := cell_nw hS c7; have d0' := cell_nw hS d0; have d1' := cell_nw hS d1; have d2' := cell_nw hS d2; have d3' := cell_nw hS d3; have d4' := cell_nw hS d4; have d5' := cell_nw hS d5; have d6' := cell_nw hS d6; have d7' := cell_nw hS d7; clear hS; first | (go_simp; done) | (go_simp; with_reducible rfl))
                  try simp only [Act.put, List.setIfInBounds_toArray, List.set_cons_zero, List.set_cons_succ]
                  refine wpAnyH_take (i := 43) (oi := ⟨some 69, _, _, _, _, _⟩) (v := ?_) rfl (by kernel_rfl) (by kernel_rfl) (by kernel_rfl) (fun _ _ _ h => h) (Or.inl ⟨by kernel_rfl, ?_⟩) hHeld ?_
                  rotate_left
                  focus (intro W hS; have c0' := cell_nw hS c0; have c1' := cell_nw hS c1; have c2' := cell_nw hS c2; have c3' := cell_nw hS c3; have c4' := cell_nw hS c4; have c5' := cell_nw hS c5; have c6' := cell_nw hS c6; have c7' := cell_nw hS c7; have d0' := cell_nw hS d0; have d1' := cell_nw hS d1; have d2' := cell_nw hS d2; have d3' := cell_nw hS d3; have d4' := cell_nw hS d4; have d5' := cell_nw hS d5; have d6' := cell_nw hS d6; have d7' := cell_nw hS d7; clear hS; first | (go_simp; done) | (go_simp; with_reducible rfl))
                  try simp only [Act.put, List.setIfInBounds_toArray, List.set_cons_zero, List.set_cons_succ]
                  refine wpAnyH_take (i := 44) (oi := ⟨some 70, _, _, _, _, _⟩) (v := ?_) rfl (by kernel_rfl) (by kernel_rfl) (by kernel_rfl) (fun _ _ _ h => h) (Or.inl ⟨by kernel_rfl, ?_⟩) hHeld ?_
                  rotate_left
                  focus (intro W hS; have c0' := cell_nw hS c0; have c1' := cell_nw hS c1; have c2' := cell_nw hS c2; have c3' := cell_nw hS c3; have c4' := cell_nw hS c4; have c5' := cell_nw hS c5; have c6' := cell_nw hS c6; have c7' := cell_nw hS c7; have d0' := cell_nw hS d0; have d1' := cell_nw hS d1; have d2' := cell_nw hS d2; have d3' := cell_nw hS d3; have d4' := cell_nw hS d4; have d5' := cell_nw hS d5; have d6' := cell_nw hS d6; have d7' := cell_nw hS d7; clear hS; first | (go_simp; done) | (go_simp; with_reducible rfl))
                  try simp only [Act.put, List.setIfInBounds_toArray, List.set_cons_zero, List.set_cons_succ]
                  refine wpAnyH_take (i := 45) (oi := ⟨some 71, _, _, _, _, _⟩) (v := ?_) rfl (by kernel_rfl) (by kernel_rfl) (by kernel_rfl) (fun _ _ _ h => h) (Or.inl ⟨by kernel_rfl, ?_⟩) hHeld ?_
                  rotate_left
                  focus (intro W hS; have c0' := cell_nw hS c0; have c1' := cell_nw hS c1; have c2' := cell_nw hS c2; have c3' := cell_nw hS c3; have c4' := cell_nw hS c4; have c5' := cell_nw hS c5; have c6' := cell_nw hS c6; have c7' := cell_nw hS c7; have d0' := cell_nw hS d0; have d1' := cell_nw hS d1; have d2' := cell_nw hS d2; have d3' := cell_nw hS d3; have d4' := cell_nw hS d4; have d5' := cell_nw hS d5; have d6' := cell_nw hS d6; have d7' := cell_nw hS d7; clear hS; first | (go_simp; done) | (go_simp; with_reducible rfl))
                  try simp only [Act.put, List.setIfInBounds_toArray, List.set_cons_zero, List.set_cons_succ]
                  refine wpAnyH_take (i := 46) (oi := ⟨some 72, _, _, _, _, _⟩) (v := ?_) rfl (by kernel_rfl) (by kernel_rfl) (by kernel_rfl) (fun _ _ _ h => h) (Or.inl ⟨by kernel_rfl, ?_⟩) hHeld ?_
                  rotate_left
                  focus (intro W hS; have c0' := cell_nw hS c0; have c1' := cell_nw hS c1; have c2' := cell_nw hS c2; have c3' := cell_nw hS c3; have c4' := cell_nw hS c4; have c5' := cell_nw hS c5; have c6' := cell_nw hS c6; have c7' := cell_nw hS c7; have d0' := cell_nw hS d0; have d1' := cell_nw hS d1; have d2' := cell_nw hS d2; have d3' := cell_nw hS d3; have d4' := cell_nw hS d4; have d5' := cell_nw hS d5; have d6' := cell_nw hS d6; have d7' := cell_nw hS d7; clear hS; first | (go_simp; done) | (go_simp; with_reducible rfl))
                  try simp only [Act.put, List.setIfInBounds_toArray, List.set_cons_zero, List.set_cons_succ]
                  by_cases e1 : (y.f4 == x.f4) = true
                  · skip
                    refine wpAnyH_take (i := 47) (oi := ⟨some 73, _, _, _, _, _⟩) (v := ?_) rfl (by kernel_rfl) (by kernel_rfl) (by kernel_rfl) (fun _ _ _ h => h) (Or.inl ⟨by kernel_rfl, ?_⟩) hHeld ?_
                    rotate_left
                    focus (intro W hS; have c0' := cell_nw hS c0; have c1' := cell_nw hS c1; have c2' := cell_nw hS c2; have c3' := cell_nw hS c3; have c4' := cell_nw hS c4; have c5' := cell_nw hS c5; have c6' := cell_nw hS c6; have c7' := cell_nw hS c7; have d0' := cell_nw hS d0; have d1' := cell_nw hS d1; have d2' := cell_nw hS d2; have d3' := cell_nw hS d3; have d4' := cell_nw hS d4; have d5' := cell_nw hS d5; have d6' := cell_nw hS d6; have d7' := cell_nw hS d7; clear hS; first | (go_simp; done) | (go_simp; with_reducible rfl))
                    try simp only [Act.put, List.setIfInBounds_toArray, List.set_cons_zero, List.set_cons_succ]
                    refine wpAnyH_take (i := 48) (oi := ⟨some 74, _, _, _, _, _⟩) (v := ?_) rfl (by kernel_rfl) (by kernel_rfl) (by kernel_rfl) (fun _ _ _ h => h) (Or.inl ⟨by kernel_rfl, ?_⟩) hHeld ?_
                    rotate_left
                    focus (intro W hS; have c0' := cell_nw hS c0; have c1' := cell_nw hS c1; have c2' := cell_nw hS c2; have c3' := cell_nw hS c3; have c4' := cell_nw hS c4; have c5' := cell_nw hS c5; have c6' := cell_nw hS c6; have c7' := cell_nw hS c7; have d0' := cell_nw hS d0; have d1' := cell_nw hS d1; have d2' := cell_nw hS d2; have d3' := cell_nw hS d3; have d4' := cell_nw hS d4; have d5' := cell_nw hS d5; have d6' := cell_nw hS d6; have d7' := cell_nw hS d7; clear hS; first | (go_simp; done) | (go_simp; with_reducible rfl))
                    try simp only [Act.put, List.setIfInBounds_toArray, List.set_cons_zero, List.set_cons_succ]
                    refine wpAnyH_take (i := 49) (oi := ⟨some 75, _, _, _, _, _⟩) (v := ?_) rfl (by kernel_rfl) (by kernel_rfl) (by kernel_rfl) (fun _ _ _ h => h) (Or.inl ⟨by kernel_rfl, ?_⟩) hHeld ?_
                    rotate_left
                    focus (intro W hS; have c0' := cell_nw hS c0; have c1' := cell_nw hS c1; have c2' := cell_nw hS c2; have c3' := cell_nw hS c3; have c4' := cell_nw hS c4; have c5' := cell_nw hS c5; have c6' := cell_nw hS c6; have c7' := cell_nw hS c7; have d0' := cell_nw hS d0; have d1' := cell_nw hS d1; have d2' := cell_nw hS d2; have d3' := cell_nw hS d3; have d4' := cell_nw hS d4; have d5' := cell_nw hS d5; have d6' := cell_nw hS d6; have d7' := cell_nw hS d7; clear hS; first | (go_simp; done) | (go_simp; with_reducible rfl))
                    try simp only [Act.put, List.setIfInBounds_toArray, List.set_cons_zero, List.set_cons_succ]
                    refine wpAnyH_done (by kernel_rfl) ?_ _
                    have HE := Lib.hid (HT.out (by rw [HQ.out]; simp [mTakes, e0, e1]))
                    go_wp2_with fail
                    go_ret
                    exact ⟨by rw [HE.out]; rfl, below_trans HB.out hHeld (Nat.le_refl _)⟩
                  · have e1 : (y.f4 == x.f4) = false := by simpa using e1
                    refine wpAnyH_take (i := 47) (oi := ⟨some 73, _, _, _, _, _⟩) (v := ?_) rfl (by kernel_rfl) (by kernel_rfl) (by kernel_rfl) (fun _ _ _ h => h) (Or.inl ⟨by kernel_rfl, ?_⟩) hHeld ?_
                    rotate_left
                    focus (intro W hS; have c0' := cell_nw hS c0; have c1' := cell_nw hS c1; have c2' := cell_nw hS c2; have c3' := cell_nw hS c3; have c4' := cell_nw hS c4; have c5' := cell_nw hS c5; have c6' := cell_nw hS c6; have c7' := cell_nw hS c7; have d0' := cell_nw hS d0; have d1' := cell_nw hS d1; have d2' := cell_nw hS d2; have d3' := cell_nw hS d3; have d4' := cell_nw hS d4; have d5' := cell_nw hS d5; have d6' := cell_nw hS d6; have d7' := cell_nw hS d7; clear hS; first | (go_simp; done) | (go_simp; with_reducible rfl))
                    try simp only [Act.put, List.setIfInBounds_toArray, List.set_cons_zero, List.set_cons_succ]
                    refine wpAnyH_take (i := 48) (oi := ⟨some 74, _, _, _, _, _⟩) (v := ?_) rfl (by kernel_rfl) (by kernel_rfl) (by kernel_rfl) (fun _ _ _ h => h) (Or.inl ⟨by kernel_rfl, ?_⟩) hHeld ?_
                    rotate_left
                    focus (intro W hS; have c0' := cell_nw hS c0; have c1' := cell_nw hS c1; have c2' := cell_nw hS c2; have c3' := cell_nw hS c3; have c4' := cell_nw hS c4; have c5' := cell_nw hS c5; have c6' := cell_nw hS c6; have c7' := cell_nw hS c7; have d0' := cell_nw hS d0; have d1' := cell_nw hS d1; have d2' := cell_nw hS d2; have d3' := cell_nw hS d3; have d4' := cell_nw hS d4; have d5' := cell_nw hS d5; have d6' := cell_nw hS d6; have d7' := cell_nw hS d7; clear hS; first | (go_simp; done) | (go_simp; with_reducible rfl))
                    try simp only [Act.put, List.setIfInBounds_toArray, List.set_cons_zero, List.set_cons_succ]
                    refine wpAnyH_take (i := 49) (oi := ⟨some 75, _, _, _, _, _⟩) (v := ?_) rfl (by kernel_rfl) (by kernel_rfl) (by kernel_rfl) (fun _ _ _ h => h) (Or.inl ⟨by kernel_rfl, ?_⟩) hHeld ?_
                    rotate_left
                    focus (intro W hS; have c0' := cell_nw hS c0; have c1' := cell_nw hS c1; have c2' := cell_nw hS c2; have c3' := cell_nw hS c3; have c4' := cell_nw hS c4; have c5' := cell_nw hS c5; have c6' := cell_nw hS c6; have c7' := cell_nw hS c7; have d0' := cell_nw hS d0; have d1' := cell_nw hS d1; have d2' := cell_nw hS d2; have d3' := cell_nw hS d3; have d4' := cell_nw hS d4; have d5' := cell_nw hS d5; have d6' := cell_nw hS d6; have d7' := cell_nw hS d7; clear hS; first | (go_simp; done) | (go_simp; with_reducible rfl))
                    try simp only [Act.put, List.setIfInBounds_toArray, List.set_cons_zero, List.set_cons_succ]
                    refine wpAnyH_done (by kernel_rfl) ?_ _
                    have HE := Lib.hid (HN.out (by rw [HQ.out]; simp [mTakes, e0, e1]))
                    have HBn := Lib.hid (below_trans HB.out hHeld (Nat.le_refl _))
                    clear hHeld
                    go_wp2_with fail
                    go_roundg (n - (m + 1))
                    case measure => omega
                    case rel => exact ⟨m + 1, by omega, by omega, by go_num, HE, HBn⟩
        · obtain rfl : m = n := by omega
          have HE := Lib.hid (show l.any (fun r => mShad r x) = false by have := HF.out; rwa [List.take_of_length_le (by rw [HL.out]; omega)] at this)
          go_wp2_with fail
          go_ret
          exact ⟨by rw [HE.out]; rfl, HB.out⟩
  · have hI : inR i 0 ((n : Int) - 1) = false := by rw [Bool.eq_false_iff]; intro h; exact hi (inR_true.1 h)
    have CI := Lib.hid (fun W => (by have := spec_in i 0 ((n : Int) - 1) W; rwa [hI] at this : Calls Try.prog 84 #[.int .i64 i, .int .i64 0, .int .i64 ((n : Int) - 1)] W fun e w' => e = .returned (.bool false) ∧ W = w'))
    have HE := Lib.hid (show mISd l i = false by unfold mISd; rw [HL.out, hI, Bool.false_and])
    clear hi hI
    go_enter Try.func64, Try.ntmps64
    go_wp2_with (go_at_call 84; refine Calls.mono (CI.out _) ?_; rintro e w1 ⟨rfl, rfl⟩)
    go_ret
    exact ⟨by rw [HE.out]; rfl, Below.refl _ _⟩

set_option maxHeartbeats 8000000 in
theorem spec_ShadowedRules (l : List TRule) (A : Option Addr) (n c lo hi : Nat) (w : World) (h0 : n ≤ 1048576) (hr : Rd w lo hi 8 A n (cRule l)) (b0 : Hid (cRuleOk l)) :
    Calls Try.prog 68 #[.slice A n c] w (Makes 3 1 (mShR l).length (i64s (mShR l)) w) := by
  have HL := Lib.hid (rd_len TRule.len hr (by decide))
  have HR := Lib.hid hr
  have hm : mShR l = (rangeI 0 n).filter (mShI l) := by rw [← HL.out]; rfl
  rw [hm]
  clear hr hm
  have HRL := Lib.hid (rangeI_len 0 n)
  have HRG := Lib.hid (fun (k : Nat) (h : k < n) => rangeI_get 0 h)
  generalize rangeI 0 n = L at HRL HRG ⊢
  have HC := Lib.hid (fun (k : Nat) (hk : k < n) (W : World) (hW : Rd W lo hi 8 A n (cRule l)) => (by
    have := spec_IsShadowed l A n c lo hi (k : Int) W h0 hW b0
    rwa [show mISd l (k : Int) = mShI l (k : Int) by unfold mISd; rw [HL.out, inR_true.2 ⟨by omega, by omega⟩, Bool.true_and]] at this :
      Calls Try.prog 64 #[.slice A n c, .int .i64 k] W (Says (.bool (mShI l (k : Int))) W)))
  generalize mShI l = p at HC ⊢
  go_enter Try.func68, Try.ntmps68
  go_wp2_with fail
  go_loopg [3, 4] n (fun gg v i wr => ∃ k : Nat, k ≤ n ∧ n - k ≤ gg ∧ i = .int .i64 k ∧ Hid (wr.ownsRow w.heap.size 3 1 v ((L.take k).filter p).length (i64s ((L.take k).filter p))) ∧ Hid (Below w.heap.size w wr))
  case atStart => exact ⟨0, Nat.zero_le _, by omega, rfl, Lib.hid (by simpa using World.ownsRow_lit (base := w.heap.size) (e := 3) (size := 1) w #[] 0 (Nat.le_refl _) (by unfold maxLen; omega) rfl), Lib.hid ((Below.refl _ _).alloc (Nat.le_refl _) _)⟩
  case round =>
    obtain ⟨k, hk, hg, rfl, HO, HB⟩ := hrel
    by_cases hlt : k < n
    · have HN := Lib.hid (Nat.le_trans (List.length_filter_le p (L.take k)) (List.length_take_le _ _))
      have hE := filt_snoc (p := p) (HRG.out k hlt)
      rw [Int.zero_add] at hE
      have HCk := HC.out k hlt wr (HR.out.new HB.out)
      cases hq : p (k : Int) with
      | true =>
        rw [hq] at HCk
        have HE := Lib.hid (hE.trans (if_pos hq))
        replace HCk := Lib.hid HCk
        clear hE hq
        go_wp2_with fail
        refine Calls.mono HCk.out ?_
        rintro e w1 ⟨rfl, hb1⟩
        have HB1 := Lib.hid (below_trans HB.out hb1 (Nat.le_refl _))
        have HO1 := Lib.hid (own_newer HO.out hb1)
        have HS1 := Lib.hid HB1.out.size
        clear hb1
        go_wp2_with (at_builtin; refine wp_app_lit rfl _ _ _ rfl w.heap.size 3 (.int .i64 0) 1 8 Try.underlying48 info_intN rfl (by decide) _ _ _ rfl HO1.out #[.int .i64 (k : Int)] 1 1 _ rfl (by simp) rfl (one_intN _) (by have := HN.out; unfold maxLen; omega) (by have := HN.out; omega) (by have := HS1.out; first | omega | (simp <;> omega)) ?_; intro v1 w8 ho8 hb8)
        have HO8 := Lib.hid (show w8.ownsRow w.heap.size 3 1 v1 ((L.take (k + 1)).filter p).length (i64s ((L.take (k + 1)).filter p)) by
          rw [HE.out]
          simpa using ho8)
        have HB8 := Lib.hid (HB1.out.trans hb8)
        clear ho8 hb8
        go_wp2_with fail
        go_roundg (n - (k + 1))
        case measure => omega
        case rel => exact ⟨k + 1, by omega, by omega, by go_num, HO8, HB8⟩
      | false =>
        rw [hq] at HCk
        have HE := Lib.hid (hE.trans (if_neg (by rw [hq]; decide)))
        replace HCk := Lib.hid HCk
        clear hE hq
        go_wp2_with fail
        refine Calls.mono HCk.out ?_
        rintro e w1 ⟨rfl, hb1⟩
        have HB1 := Lib.hid (below_trans HB.out hb1 (Nat.le_refl _))
        have HO1 := Lib.hid (own_newer HO.out hb1)
        clear hb1
        go_wp2_with fail
        go_roundg (n - (k + 1))
        case measure => omega
        case rel => exact ⟨k + 1, by omega, by omega, by go_num, by rw [HE.out]; exact HO1, HB1⟩
    · obtain rfl : k = n := by omega
      have HO2 := HO.out
      rw [List.take_of_length_le (by rw [HRL.out]; omega)] at HO2
      replace HO2 := Lib.hid HO2
      go_wp2_with fail
      go_ret
      exact makes_of_own HO2.out HB.out
set_option maxHeartbeats 8000000 in
theorem impl_IsShadowed (l : List TRule) (A : Option Addr) (n c lo hi : Nat) (i : Int) (w : World) (h0 : n ≤ 1048576) (hr : Rd w lo hi 8 A n (cRule l)) (b0 : Hid (cRuleOk l)) :
    Calls Try.prog 66 #[.slice A n c, .int .i64 i] w (Says (.bool (mISd l i)) w) := by
  have HLn := Lib.hid (show (mShR l).length ≤ 17592186044416 by have := rd_len TRule.len hr (by decide); have := mShR_len l; omega)
  have HC := Lib.hid (impl_ShadowedRules l A n c lo hi w h0 hr b0)
  rw [← mShR_any]
  clear hr
  generalize mShR l = r at HLn HC ⊢
  go_enter Try.func66, Try.ntmps66
  go_wp2_with fail
  refine Calls.mono HC.out ?_
  rintro e w1 ⟨A1, c1, rfl, hf1, hb1⟩
  have HB1 := Lib.hid hb1
  have HC2 := Lib.hid (contains_Int i r A1 r.length c1 _ _ w1 HLn.out hf1.rd)
  clear hb1 hf1
  generalize hq : r.any (fun z => decide (i = z)) = q at HC2
  have HQ := Lib.hid hq
  clear hq
  go_wp2_with fail
  refine Calls.mono HC2.out ?_
  rintro e w2 ⟨rfl, hb2⟩
  have HB2 := Lib.hid (below_trans HB1.out hb2 (Nat.le_refl _))
  clear hb2
  go_wp2_with fail
  go_ret
  exact ⟨by rw [HQ.out]; rfl, HB2.out⟩

end Go.Proofs.Ythipflbjnnplaaa
