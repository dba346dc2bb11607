/- The law FnIntegers answers true for every argument, and leaves each argument as it was. No condition. -/
import Derived.Test.YteldjnjjdjlpnaaDoorDFrame
import Derived.Test.YteldjnjjdjlpnaaDoorParse
import Derived.Test.YteldjnjjdjlpnaaDoorFmtImpl
import Derived.Test.YteldjnjjdjlpnaaDoorDraw1
import Derived.Test.YteldjnjjdjlpnaaDoorInts
namespace Go.Proofs.YteldjnjjdjlpnaaDoor.fnIntegers
open Go Go.ChangeShapes Go.WideShapes Go.ChangeAt Go.RowKit Go.Lib
open Go.ChangeMaps (open_string)
set_option linter.unusedVariables false

set_option maxHeartbeats 4000000 in
theorem walk (A0 : Option Addr) (n0 c0 : Nat) (w0 : n0 ≤ maxLen) (w : World) (m0 : BytesAt w w.heap.size A0 n0) (hT : Pow10 w) :
    Calls Tryd.prog 3 #[.slice A0 n0 c0] w fun e w' => e = .returned (.bool true) ∧ Below w.heap.size w w' := by
  have hn0 : n0 ≤ 9223372036854775807 := w0
  by_cases h : n0 ≤ 1048576
  · have g : decide ((1048576 : Int) < n0) = false := by simp; omega
    have M0 := Lib.hid m0
    have HT := Lib.hid hT
    clear m0 hT
    go_enter Tryd.func3, Tryd.ntmps3
    go_wp2_with fail
    refine (big_any n0 c0 A0 _ w0).mono ?_
    rintro e w1 ⟨rfl, rfl⟩
    rw [g]
    go_wp2_with fail
    refine (drawParse_any n0 c0 A0 _ (by omega) M0.out).mono ?_
    rintro e w1 ⟨s, hs, rfl, hb1⟩
    have HB1 := Lib.hid hb1
    go_wp2_with fail
    refine (parse_impl s _ (by unfold maxLen; omega)).mono ?_
    rintro e w2 ⟨rfl, hb2⟩
    have HB2 : Hid (Below w.heap.size w w2) := hb1.trans (hb2.mono hb1.size)
    clear hb1 hb2
    have hq : pok s.data.toList = true → Hid (itoa (pval s.data.toList) = s.data.toList) := fun h => (itoa_pval h).1
    have hp : pok s.data.toList = true → 0 ≤ pval s.data.toList ∧ pval s.data.toList ≤ 1000000000000 := fun h => (itoa_pval h).2
    generalize pval s.data.toList = p at *
    generalize pok s.data.toList = q at *
    have HQ := Lib.hid hq
    have HP := Lib.hid hp
    clear hq hp
    have M2 : Hid (BytesAt w2 w2.heap.size A0 n0) := bytes_below M0.out HB2.out
    go_wp2_with fail
    refine (drawFormat_any n0 c0 A0 _ (by omega) M2.out).mono ?_
    rintro e w3 ⟨y, hy0, hy1, rfl, hb3⟩
    have HB3 : Hid (Below w.heap.size w w3) := HB2.out.trans (hb3.mono HB2.out.size)
    clear hb3
    go_wp2_with fail
    refine (format_impl y _ hy0 hy1 (pow10_below HT.out HB3.out)).mono ?_
    rintro e w4 ⟨rfl, hb4⟩
    have HB4 : Hid (Below w.heap.size w w4) := HB3.out.trans (hb4.mono HB3.out.size)
    clear hb4
    go_wp2_with fail
    refine (parse_impl ⟨(itoa y).toArray⟩ _ (by have := itoa_len y hy0 hy1; simp [ByteArray.size, maxLen]; omega)).mono ?_
    rintro e w5 ⟨rfl, hb5⟩
    have HB5 : Hid (Below w.heap.size w w5) := HB4.out.trans (hb5.mono HB4.out.size)
    clear hb5
    have M5 : Hid (BytesAt w5 w5.heap.size A0 n0) := bytes_below M0.out HB5.out
    have hpi := pok_itoa y
    dsimp only
    obtain ⟨k, fine, hk⟩ : ∃ (k : Int) (fine : Bool), pval (itoa y) = k ∧ pok (itoa y) = fine := ⟨_, _, rfl, rfl⟩
    rw [hk.1, hk.2] at hpi ⊢
    clear hk
    go_wp2_with fail
    refine (drawCeil_any n0 c0 A0 _ (by omega) M5.out).mono ?_
    rintro e w6 ⟨a, b, ha0, ha1, hb0, hb1, rfl, hb6⟩
    have HB6 : Hid (Below w.heap.size w w6) := HB5.out.trans (hb6.mono HB5.out.size)
    clear hb6
    have HPI := Lib.hid hpi
    clear hpi
    go_wp2_with fail
    refine (ceil_any a b _ ⟨ha0, ha1⟩ ⟨hb0, hb1⟩).mono ?_
    rintro e w7 ⟨rfl, rfl⟩
    go_wp2_with fail
    refine (mod_any a b _ ⟨ha0, ha1⟩ ⟨hb0, hb1⟩).mono ?_
    rintro e w7 ⟨rfl, rfl⟩
    have HM : Hid (1 ≤ b → b ≤ 1000000000000 → 0 ≤ modv a b ∧ modv a b < b ∧ (a.tmod b - modv a b).tmod b = 0 ∧ -1000000000000 ≤ a.tmod b - modv a b ∧ a.tmod b - modv a b ≤ 1000000000000) := fun h1 h2 => mod_facts h1 h2
    have HC : Hid (0 ≤ a → a ≤ 1000000000000 → 1 ≤ b → b ≤ 1000000000000 → a ≤ cdiv a b * b ∧ cdiv a b * b < a + b) := fun h1 h2 h3 h4 => ceil_facts h1 h2 h3 h4
    have HCZ : Hid (¬ (0 ≤ a ∧ a ≤ 1000000000000 ∧ 1 ≤ b ∧ b ≤ 1000000000000) → cdiv a b = 0) := fun h => ceil_zero h
    have HMZ : Hid (¬ (1 ≤ b ∧ b ≤ 1000000000000) → modv a b = 0) := fun h => mod_zero h
    generalize cdiv a b = Q at *
    generalize modv a b = R at *
    by_cases hy : 0 ≤ y ∧ y ≤ 1000000000000
    · obtain ⟨rfl, rfl⟩ := HPI.out.1 hy
      obtain ⟨y1, y2⟩ := hy
      clear HPI
      cases q with
      | true =>
        obtain ⟨p1, p2⟩ := HP.out rfl
        have HQ2 : Hid (itoa p = s.data.toList) := HQ.out rfl
        clear HP HQ
        have he : (itoa p == s.toList) = true := by rw [HQ2.out, ByteArray.toList_eq]; exact beq_self_eq_true _
        go_wp2_with fail
        refine (format_impl p _ (by omega) (by omega) (pow10_below HT.out HB6.out)).mono ?_
        rintro e w7 ⟨rfl, hb7⟩
        have HB7 : Hid (Below w.heap.size w w7) := HB6.out.trans (hb7.mono HB6.out.size)
        clear hb7
        by_cases b1 : 1 ≤ b
        · by_cases b2 : b ≤ 1000000000000
          · obtain ⟨r0, r1, r2, r3, r4⟩ := HM.out b1 b2
            clear HM HMZ
            by_cases a1 : 0 ≤ a
            · rw [Int.tmod_eq_emod_of_nonneg a1] at r2 r3 r4
              by_cases a2 : a ≤ 1000000000000
              · obtain ⟨q0, q1⟩ := HC.out a1 a2 b1 b2
                have q3 : decide (Q * b - a < b) = true := by simp only [decide_eq_true_eq]; omega
                clear HC HCZ
                go_wp2
                all_goals go_ret
                all_goals exact ⟨rfl, HB7.out⟩
              · obtain rfl := HCZ.out (by omega)
                clear HC HCZ
                go_wp2
                all_goals go_ret
                all_goals exact ⟨rfl, HB7.out⟩
            · obtain rfl := HCZ.out (by omega)
              clear HC HCZ
              go_wp2
              all_goals go_ret
              all_goals exact ⟨rfl, HB7.out⟩
          · obtain rfl := HCZ.out (by omega)
            obtain rfl := HMZ.out (by omega)
            clear HC HCZ HM HMZ
            go_wp2
            all_goals go_ret
            all_goals exact ⟨rfl, HB7.out⟩
        · obtain rfl := HCZ.out (by omega)
          obtain rfl := HMZ.out (by omega)
          clear HC HCZ HM HMZ
          go_wp2
          all_goals go_ret
          all_goals exact ⟨rfl, HB7.out⟩
      | false =>
        clear HP HQ
        by_cases b1 : 1 ≤ b
        · by_cases b2 : b ≤ 1000000000000
          · obtain ⟨r0, r1, r2, r3, r4⟩ := HM.out b1 b2
            clear HM HMZ
            by_cases a1 : 0 ≤ a
            · rw [Int.tmod_eq_emod_of_nonneg a1] at r2 r3 r4
              by_cases a2 : a ≤ 1000000000000
              · obtain ⟨q0, q1⟩ := HC.out a1 a2 b1 b2
                have q3 : decide (Q * b - a < b) = true := by simp only [decide_eq_true_eq]; omega
                clear HC HCZ
                go_wp2
                all_goals go_ret
                all_goals exact ⟨rfl, HB6.out⟩
              · obtain rfl := HCZ.out (by omega)
                clear HC HCZ
                go_wp2
                all_goals go_ret
                all_goals exact ⟨rfl, HB6.out⟩
            · obtain rfl := HCZ.out (by omega)
              clear HC HCZ
              go_wp2
              all_goals go_ret
              all_goals exact ⟨rfl, HB6.out⟩
          · obtain rfl := HCZ.out (by omega)
            obtain rfl := HMZ.out (by omega)
            clear HC HCZ HM HMZ
            go_wp2
            all_goals go_ret
            all_goals exact ⟨rfl, HB6.out⟩
        · obtain rfl := HCZ.out (by omega)
          obtain rfl := HMZ.out (by omega)
          clear HC HCZ HM HMZ
          go_wp2
          all_goals go_ret
          all_goals exact ⟨rfl, HB6.out⟩
    · obtain ⟨rfl, rfl⟩ := HPI.out.2 hy
      clear HPI
      by_cases y1 : 0 ≤ y
      · have y2 : 1000000000000 < y := by omega
        clear hy
        cases q with
        | true =>
          obtain ⟨p1, p2⟩ := HP.out rfl
          have HQ2 : Hid (itoa p = s.data.toList) := HQ.out rfl
          clear HP HQ
          have he : (itoa p == s.toList) = true := by rw [HQ2.out, ByteArray.toList_eq]; exact beq_self_eq_true _
          go_wp2_with fail
          refine (format_impl p _ (by omega) (by omega) (pow10_below HT.out HB6.out)).mono ?_
          rintro e w7 ⟨rfl, hb7⟩
          have HB7 : Hid (Below w.heap.size w w7) := HB6.out.trans (hb7.mono HB6.out.size)
          clear hb7
          by_cases b1 : 1 ≤ b
          · by_cases b2 : b ≤ 1000000000000
            · obtain ⟨r0, r1, r2, r3, r4⟩ := HM.out b1 b2
              clear HM HMZ
              by_cases a1 : 0 ≤ a
              · rw [Int.tmod_eq_emod_of_nonneg a1] at r2 r3 r4
                by_cases a2 : a ≤ 1000000000000
                · obtain ⟨q0, q1⟩ := HC.out a1 a2 b1 b2
                  have q3 : decide (Q * b - a < b) = true := by simp only [decide_eq_true_eq]; omega
                  clear HC HCZ
                  go_wp2
                  all_goals go_ret
                  all_goals exact ⟨rfl, HB7.out⟩
                · obtain rfl := HCZ.out (by omega)
                  clear HC HCZ
                  go_wp2
                  all_goals go_ret
                  all_goals exact ⟨rfl, HB7.out⟩
              · obtain rfl := HCZ.out (by omega)
                clear HC HCZ
                go_wp2
                all_goals go_ret
                all_goals exact ⟨rfl, HB7.out⟩
            · obtain rfl := HCZ.out (by omega)
              obtain rfl := HMZ.out (by omega)
              clear HC HCZ HM HMZ
              go_wp2
              all_goals go_ret
              all_goals exact ⟨rfl, HB7.out⟩
          · obtain rfl := HCZ.out (by omega)
            obtain rfl := HMZ.out (by omega)
            clear HC HCZ HM HMZ
            go_wp2
            all_goals go_ret
            all_goals exact ⟨rfl, HB7.out⟩
        | false =>
          clear HP HQ
          by_cases b1 : 1 ≤ b
          · by_cases b2 : b ≤ 1000000000000
            · obtain ⟨r0, r1, r2, r3, r4⟩ := HM.out b1 b2
              clear HM HMZ
              by_cases a1 : 0 ≤ a
              · rw [Int.tmod_eq_emod_of_nonneg a1] at r2 r3 r4
                by_cases a2 : a ≤ 1000000000000
                · obtain ⟨q0, q1⟩ := HC.out a1 a2 b1 b2
                  have q3 : decide (Q * b - a < b) = true := by simp only [decide_eq_true_eq]; omega
                  clear HC HCZ
                  go_wp2
                  all_goals go_ret
                  all_goals exact ⟨rfl, HB6.out⟩
                · obtain rfl := HCZ.out (by omega)
                  clear HC HCZ
                  go_wp2
                  all_goals go_ret
                  all_goals exact ⟨rfl, HB6.out⟩
              · obtain rfl := HCZ.out (by omega)
                clear HC HCZ
                go_wp2
                all_goals go_ret
                all_goals exact ⟨rfl, HB6.out⟩
            · obtain rfl := HCZ.out (by omega)
              obtain rfl := HMZ.out (by omega)
              clear HC HCZ HM HMZ
              go_wp2
              all_goals go_ret
              all_goals exact ⟨rfl, HB6.out⟩
          · obtain rfl := HCZ.out (by omega)
            obtain rfl := HMZ.out (by omega)
            clear HC HCZ HM HMZ
            go_wp2
            all_goals go_ret
            all_goals exact ⟨rfl, HB6.out⟩
      · clear hy
        cases q with
        | true =>
          obtain ⟨p1, p2⟩ := HP.out rfl
          have HQ2 : Hid (itoa p = s.data.toList) := HQ.out rfl
          clear HP HQ
          have he : (itoa p == s.toList) = true := by rw [HQ2.out, ByteArray.toList_eq]; exact beq_self_eq_true _
          go_wp2_with fail
          refine (format_impl p _ (by omega) (by omega) (pow10_below HT.out HB6.out)).mono ?_
          rintro e w7 ⟨rfl, hb7⟩
          have HB7 : Hid (Below w.heap.size w w7) := HB6.out.trans (hb7.mono HB6.out.size)
          clear hb7
          by_cases b1 : 1 ≤ b
          · by_cases b2 : b ≤ 1000000000000
            · obtain ⟨r0, r1, r2, r3, r4⟩ := HM.out b1 b2
              clear HM HMZ
              by_cases a1 : 0 ≤ a
              · rw [Int.tmod_eq_emod_of_nonneg a1] at r2 r3 r4
                by_cases a2 : a ≤ 1000000000000
                · obtain ⟨q0, q1⟩ := HC.out a1 a2 b1 b2
                  have q3 : decide (Q * b - a < b) = true := by simp only [decide_eq_true_eq]; omega
                  clear HC HCZ
                  go_wp2
                  all_goals go_ret
                  all_goals exact ⟨rfl, HB7.out⟩
                · obtain rfl := HCZ.out (by omega)
                  clear HC HCZ
                  go_wp2
                  all_goals go_ret
                  all_goals exact ⟨rfl, HB7.out⟩
              · obtain rfl := HCZ.out (by omega)
                clear HC HCZ
                go_wp2
                all_goals go_ret
                all_goals exact ⟨rfl, HB7.out⟩
            · obtain rfl := HCZ.out (by omega)
              obtain rfl := HMZ.out (by omega)
              clear HC HCZ HM HMZ
              go_wp2
              all_goals go_ret
              all_goals exact ⟨rfl, HB7.out⟩
          · obtain rfl := HCZ.out (by omega)
            obtain rfl := HMZ.out (by omega)
            clear HC HCZ HM HMZ
            go_wp2
            all_goals go_ret
            all_goals exact ⟨rfl, HB7.out⟩
        | false =>
          clear HP HQ
          by_cases b1 : 1 ≤ b
          · by_cases b2 : b ≤ 1000000000000
            · obtain ⟨r0, r1, r2, r3, r4⟩ := HM.out b1 b2
              clear HM HMZ
              by_cases a1 : 0 ≤ a
              · rw [Int.tmod_eq_emod_of_nonneg a1] at r2 r3 r4
                by_cases a2 : a ≤ 1000000000000
                · obtain ⟨q0, q1⟩ := HC.out a1 a2 b1 b2
                  have q3 : decide (Q * b - a < b) = true := by simp only [decide_eq_true_eq]; omega
                  clear HC HCZ
                  go_wp2
                  all_goals go_ret
                  all_goals exact ⟨rfl, HB6.out⟩
                · obtain rfl := HCZ.out (by omega)
                  clear HC HCZ
                  go_wp2
                  all_goals go_ret
                  all_goals exact ⟨rfl, HB6.out⟩
              · obtain rfl := HCZ.out (by omega)
                clear HC HCZ
                go_wp2
                all_goals go_ret
                all_goals exact ⟨rfl, HB6.out⟩
            · obtain rfl := HCZ.out (by omega)
              obtain rfl := HMZ.out (by omega)
              clear HC HCZ HM HMZ
              go_wp2
              all_goals go_ret
              all_goals exact ⟨rfl, HB6.out⟩
          · obtain rfl := HCZ.out (by omega)
            obtain rfl := HMZ.out (by omega)
            clear HC HCZ HM HMZ
            go_wp2
            all_goals go_ret
            all_goals exact ⟨rfl, HB6.out⟩
  · have g : decide ((1048576 : Int) < n0) = true := by simp; omega
    clear m0 hT
    go_enter Tryd.func3, Tryd.ntmps3
    go_wp2_with fail
    refine (big_any n0 c0 A0 _ w0).mono ?_
    rintro e w1 ⟨rfl, rfl⟩
    rw [g]
    go_wp2_with fail
    go_ret
    exact ⟨rfl, Below.refl _ _⟩

set_option maxRecDepth 100000 in
theorem lifted (os : Os) (started : os.Started) (H : Type) (enc : TypeId × Value → H) :
    ReturnsInHanded {} Tryd.checked os 3 .any (fun w args => (Rows.fnIntegersSpec.pre enc Tryd.prog Tryd.f3 [] false w args ∧ laidMetH Tryd.prog laidVars w) ∧ sizedMet enc Tryd.prog Tryd.f3 (OpenSpec.ofChange Rows.fnIntegersSpec) false w args) (Rows.fnIntegersSpec.post enc Tryd.prog Tryd.f3 false true false false) := by
  refine law_lifted_laid Tryd.func3 (by kernel_rfl) rfl rfl (by kernel_rfl) os started
    (ChangeSpec.witness_shaped (enc := enc) (C := Tryd.checked) (os := os) (X := fun w _ => laidMetH Tryd.prog laidVars w) false (World.laidAll Tryd.prog os laidVars) #[.slice none 0 0] 8 (World.laidAll_os _ _ _)
      (World.shaped_of_ZipB (by kernel_rfl) (by kernel_rfl)) (by kernel_rfl) (by kernel_rfl) (by kernel_rfl)
      (by rw [MakeChecks.laidMetH_plain _ _ _ (by kernel_rfl)]; exact laidMet_laidAll _ (by kernel_rfl) (by kernel_rfl))) ?_
  intro W base args ds p hT hval hA hlt
  rw [Tryd.params3] at hA hval
  obtain ⟨v0, vs0, d0, ds0, p0, q0, hargs, rfl, rfl, h0, r0⟩ := trodAll_cons hA
  obtain ⟨rfl, rfl, rfl⟩ := trodAll_nil r0
  obtain rfl : args = #[v0] := by cases args; simp_all
  obtain ⟨A0, n0, c0, rfl, w0, m0⟩ := open_bytes (hval 0 22 v0 rfl rfl) h0 (fun x hx => hlt x (by simp [hx]))
  exact ⟨⟨rfl, rfl, rfl⟩, walk A0 n0 c0 w0 W m0 hT⟩

theorem over : Rows.fnIntegersRow.holds Tryd.pinned (OpenSpec.ofChange Rows.fnIntegersSpec) :=
  OpenClaim.holds_of_wide 3 Tryd.f3 rfl rfl rfl rfl rfl rfl rfl ⟨rfl, rfl, rfl, rfl, rfl⟩ rfl rfl rfl rfl rfl (by kernel_rfl) Tryd.func3 (by kernel_rfl)
    (of_decide_eq_true (by kernel_rfl)) (by unfold Func.isWrapper; first | (rw [if_pos (by decide +kernel)]; kernel_rfl) | (rw [if_neg (by decide +kernel)]; exact ⟨rfl, rfl⟩))
    (fun os started H enc _ => lifted os started H enc)

theorem proved : Rows.FnIntegersCardSaid :=
  Claim7.holds_tied_plain_at .later [] [.data, .data, .data] true Rows.fnIntegersCard.stood.harness true over (fun _ h => by cases h) (by kernel_rfl) (fun _ h => by cases h) fnIntegers_row_tie rfl ⟨rfl, rfl⟩ (by kernel_rfl) rfl
    (fun f fn hf hfn => by
      obtain rfl : f = 3 := Option.some.inj ((show Tryd.prog.funcNamed "loop.example/g03001/laws.FnIntegers" = some 3 by kernel_rfl).symm.trans hf) |>.symm
      obtain rfl : fn = Tryd.f3 := (Option.some.inj (Tryd.func3.symm.trans hfn)).symm
      exact ⟨by kernel_rfl, fun j t ht => by
        rw [Tryd.params3] at ht
        have hm : t ∈ [22] := by simpa using Array.mem_of_getElem? ht
        have hall : ([22].all fun u => !Tryd.prog.wantsStandIn u) = true := by kernel_rfl
        exact (show Tryd.prog.wantsStandIn t = false by simpa using List.all_eq_true.1 hall t hm)⟩)
    (by kernel_rfl)
#print axioms proved
end Go.Proofs.YteldjnjjdjlpnaaDoor.fnIntegers
