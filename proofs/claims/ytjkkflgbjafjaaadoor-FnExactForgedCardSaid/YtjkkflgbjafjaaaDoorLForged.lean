/- The law FnExactForged answers true for every argument, and leaves each argument as it was. No condition. -/
import Derived.Test.YtjkkflgbjafjaaaDoorEFrame
import Derived.Test.YtjkkflgbjafjaaaDoorTLetter
import Derived.Test.YtjkkflgbjafjaaaDoorForged
namespace Go.Proofs.YtjkkflgbjafjaaaDoor.fnExactForged
open Go Go.ChangeShapes Go.WideShapes Go.ChangeAt Go.RowKit Go.Lib
open Go.ChangeMaps (open_string)
set_option linter.unusedVariables false
set_option linter.unusedSimpArgs false
set_option maxRecDepth 100000

theorem drw_size {W w' : World} (hb : Below W.drew.heap.size W.drew w') : W.heap.size ≤ w'.heap.size := hb.size
set_option maxRecDepth 100000 in
set_option maxHeartbeats 20000000 in
theorem walk (a0 : Int) (l1 : List TLetter) (A1 : Option Addr) (n1 c1 : Nat) (w : World) (hT : Pow10 w) (wf0 : (Lit.int .i64 a0).wf = true) (hm1 : n1 ≤ maxLen) (R1 : Rd w 0 w.heap.size 4 A1 n1 (cLetter l1)) (H1 : Hid (cLetterOk l1)) :
    Calls Tryd.prog 6 #[.int .i64 a0, .slice A1 n1 c1] w fun e w' => e = .returned (.bool true) ∧ Below w.heap.size w w' := by
  have hm1 : n1 ≤ 9223372036854775807 := hm1
  have Wf0 := Lib.hid wf0
  clear wf0
  by_cases hz1 : n1 ≤ 1048576
  · skip
    go_enter Tryd.func6, Tryd.ntmps6
    go_wp2_with fail
    refine (sz_letter A1 n1 c1 (1048576) _ hm1 (by omega) (by omega)).mono ?_
    rintro e w1 hq
    obtain ⟨rfl, B1⟩ := hq.says
    replace R1 := R1.new B1
    have G := B1
    have S1 := Lib.hid B1.size
    clear B1
    go_wp2_with fail
    refine (to_letter l1 A1 n1 c1 _ _ _ (by omega) R1).mono ?_
    rintro e w2 ⟨T2, tc2, rfl, FT2, B2⟩
    replace R1 := R1.new B2
    replace G := below_trans G B2 (Nat.le_refl _)
    have S2 := Lib.hid B2.size
    clear B2
    go_wp2_with fail
    refine (spec_Forged a0 l1 T2 n1 tc2 _ _ _ (pow10_below hT G) Wf0.out (by omega) FT2.rd H1).mono ?_
    rintro e w3 ⟨rfl, B3⟩
    replace R1 := R1.new B3
    replace FT2 := FT2.new B3
    replace G := below_trans G B3 (Nat.le_refl _)
    have S3 := Lib.hid B3.size
    clear B3
    clear FT2
    go_wp2_with fail
    refine (to_letter l1 A1 n1 c1 _ _ _ (by omega) R1).mono ?_
    rintro e w4 ⟨T4, tc4, rfl, FT4, B4⟩
    replace R1 := R1.new B4
    replace G := below_trans G B4 (Nat.le_refl _)
    have S4 := Lib.hid B4.size
    clear B4
    go_wp2_with fail
    refine (impl_Forged a0 l1 T4 n1 tc4 _ _ _ (pow10_below hT G) Wf0.out (by omega) FT4.rd H1).mono ?_
    rintro e w5 ⟨rfl, B5⟩
    replace R1 := R1.new B5
    replace FT4 := FT4.new B5
    replace G := below_trans G B5 (Nat.le_refl _)
    have S5 := Lib.hid B5.size
    clear B5
    go_wp2_with fail
    refine (to_letter l1 A1 n1 c1 _ _ _ (by omega) R1).mono ?_
    rintro e w6 ⟨T6, tc6, rfl, FT6, B6⟩
    replace R1 := R1.new B6
    replace FT4 := FT4.new B6
    replace G := below_trans G B6 (Nat.le_refl _)
    have S6 := Lib.hid B6.size
    clear B6
    go_wp2_with fail
    refine (eq_letter_same l1 T4 T6 n1 n1 tc4 tc6 _ _ _ _ _ (by omega) (by omega) FT4.rd FT6.rd).mono ?_
    rintro e w7 ⟨rfl, B7⟩
    replace R1 := R1.new B7
    replace FT4 := FT4.new B7
    replace FT6 := FT6.new B7
    replace G := below_trans G B7 (Nat.le_refl _)
    have S7 := Lib.hid B7.size
    clear B7
    clear FT6
    go_wp2_with fail
    go_ret
    exact ⟨rfl, G⟩
  · skip
    go_enter Tryd.func6, Tryd.ntmps6
    go_wp2_with fail
    refine (szno_letter A1 n1 c1 (1048576) _ hm1 (by omega) (by omega) (by omega)).mono ?_
    rintro e w1 hq
    obtain ⟨rfl, B8⟩ := hq.says
    have G := B8
    have S1 := Lib.hid B8.size
    clear B8
    go_wp2_with fail
    go_ret
    exact ⟨rfl, G⟩

set_option maxRecDepth 100000 in
theorem lifted (os : Os) (started : os.Started) (H : Type) (enc : TypeId × Value → H) :
    ReturnsInHanded {} Tryd.checked os 6 .any (fun w args => (Rows.fnExactForgedSpec.pre enc Tryd.prog Tryd.f6 [] false w args ∧ laidMetH Tryd.prog laidVars w) ∧ sizedMet enc Tryd.prog Tryd.f6 (OpenSpec.ofChange Rows.fnExactForgedSpec) false w args) (Rows.fnExactForgedSpec.post enc Tryd.prog Tryd.f6 false true false false) := by
  refine law_lifted_laid Tryd.func6 (by kernel_rfl) rfl rfl (by kernel_rfl) os started
    (ChangeSpec.witness_shaped (enc := enc) (C := Tryd.checked) (os := os) (X := fun w _ => laidMetH Tryd.prog laidVars w) false (World.laidAll Tryd.prog os laidVars) #[.int .i64 0, .slice none 0 0] 8 (World.laidAll_os _ _ _)
      (World.shaped_of_ZipB (by kernel_rfl) (by kernel_rfl)) (by kernel_rfl) (by kernel_rfl) (by kernel_rfl)
      (by rw [MakeChecks.laidMetH_plain _ _ _ (by kernel_rfl)]; exact laidMet_laidAll _ (by kernel_rfl) (by kernel_rfl))) ?_
  intro W base args ds p hT hval hA hlt
  rw [Tryd.params6] at hA hval
  obtain ⟨v0, vs0, d0, ds0, p0, q0, hargs, rfl, rfl, h0, r0⟩ := trodAll_cons hA
  obtain ⟨v1, vs1, d1, ds1, p1, q1, rfl, rfl, rfl, h1, r1⟩ := trodAll_cons r0
  obtain ⟨rfl, rfl, rfl⟩ := trodAll_nil r1
  obtain rfl : args = #[v0, v1] := by cases args; simp_all
  obtain ⟨a0, rfl, rfl, rfl, wf0⟩ := open_int Tryd.underlying3 (hval 0 3 v0 rfl rfl) h0
  obtain ⟨A1, n1, c1, l1, rfl, m1, R1, H1⟩ := open_letter_list (hval 1 30 v1 rfl rfl) h1 (fun x hx => hlt x (by simp [hx]))
  exact ⟨fun _ => ⟨rfl, rfl, rfl⟩, walk a0 l1 A1 n1 c1 W hT wf0 m1 R1 H1⟩

theorem over : Rows.fnExactForgedRow.holds Tryd.pinned (OpenSpec.ofChange Rows.fnExactForgedSpec) :=
  OpenClaim.holds_of_wide 6 Tryd.f6 rfl rfl rfl rfl rfl rfl rfl ⟨rfl, rfl, rfl, rfl, rfl⟩ rfl rfl rfl rfl rfl (by kernel_rfl) Tryd.func6 (by kernel_rfl)
    (of_decide_eq_true (by kernel_rfl)) (by unfold Func.isWrapper; first | (rw [if_pos (by decide +kernel)]; kernel_rfl) | (rw [if_neg (by decide +kernel)]; exact ⟨rfl, rfl⟩))
    (fun os started H enc _ => lifted os started H enc)

theorem proved : Rows.FnExactForgedCardSaid :=
  Claim7.holds_tied_plain_at .later [] [.sentinel] true Rows.fnExactForgedCard.stood.harness true over (fun _ h => by cases h) (by kernel_rfl) (fun _ h => by cases h) fnExactForged_row_tie rfl ⟨rfl, rfl⟩ (by kernel_rfl) rfl
    (fun f fn hf hfn => by
      obtain rfl : f = 6 := Option.some.inj ((show Tryd.prog.funcNamed "loop.example/g03001/laws.FnExactForged" = some 6 by kernel_rfl).symm.trans hf) |>.symm
      obtain rfl : fn = Tryd.f6 := (Option.some.inj (Tryd.func6.symm.trans hfn)).symm
      exact ⟨by kernel_rfl, fun j t ht => by
        rw [Tryd.params6] at ht
        have hm : t ∈ [3, 30] := by simpa using Array.mem_of_getElem? ht
        have hall : ([3, 30].all fun u => !Tryd.prog.wantsStandIn u) = true := by kernel_rfl
        exact (show Tryd.prog.wantsStandIn t = false by simpa using List.all_eq_true.1 hall t hm)⟩)
    (by kernel_rfl)
#print axioms proved
end Go.Proofs.YtjkkflgbjafjaaaDoor.fnExactForged
