/- The law FnLabels answers true for every argument, and leaves each argument as it was. No condition. -/
import Derived.Test.YtlnmgfbfpjfddaaDoorDFrame
import Derived.Test.YtlnmgfbfpjfddaaDoorLbE
import Derived.Test.YtlnmgfbfpjfddaaDoorDrL
import Derived.Test.YtlnmgfbfpjfddaaDoorLwC
import Derived.Deep.DeepCutAuto
namespace Go.Proofs.YtlnmgfbfpjfddaaDoor.fnLabels
open Go Go.ChangeShapes Go.WideShapes Go.ChangeAt Go.RowKit Go.Lib
open Go.ChangeMaps (open_string)
set_option linter.unusedVariables false
set_option linter.unusedSimpArgs false
set_option maxRecDepth 100000
set_option maxHeartbeats 16000000 in

theorem walk (A0 : Option Addr) (n0 c0 : Nat) (w0 : n0 ≤ maxLen) (w : World) (m0 : BytesAt w w.heap.size A0 n0) (hT : Pow10 w) :
    Calls Tryd.prog 4 #[.slice A0 n0 c0] w fun e w' => e = .returned (.bool true) ∧ Below w.heap.size w w' := by
  have hn0 : n0 ≤ 9223372036854775807 := w0
  by_cases h : n0 ≤ 1048576
  · skip
    have g : decide ((1048576 : Int) < n0) = false := by simp; omega
    have M0 := Lib.hid m0
    have HT := Lib.hid hT
    clear m0 hT
    go_enter Tryd.func4, Tryd.ntmps4
    go_wp2_with fail
    refine (big_any n0 c0 A0 _ w0).mono ?_
    rintro e w1 ⟨rfl, rfl⟩
    rw [g]
    have HB := Lib.hid (Below.refl w.heap.size w)
    go_wp2_with fail
    refine Calls.mono (drawLL_any n0 c0 A0 _ (by omega) (bytes_below M0.out HB.out)) ?_
    rintro e w2 ⟨x, y, hx0, hx1, hy0, hy1, rfl, hb⟩
    replace HB := Lib.hid (below_trans HB.out hb (Nat.le_refl _))
    clear hb
    have WX := Lib.hid (show (Lit.int .i64 x).wf = true from WalkArith.wf_i64 (by constructor <;> omega))
    have WY := Lib.hid (show (Lit.int .i64 y).wf = true from WalkArith.wf_i64 (by constructor <;> omega))
    have EC := mJoin_comm x y
    have EZ := mJoin_label x y
    have EO := Lib.hid (fun h : mIsLabel x = true => mLabS_own h)
    have EW := Lib.hid (fun (h : mIsLabel x = true) (h' : mIsLabel y = true) => mLWith_join h h')
    have EJ := Lib.hid (fun (h : mIsLabel x = true) (h' : mIsLabel y = true) (o : Int) (h1 : 1 ≤ o) (h9 : o ≤ 9) => own_join h h' h1 h9)
    obtain ⟨z, hz⟩ : ∃ z, mJoin x y = z := ⟨_, rfl⟩
    have HZ := Lib.hid hz
    rw [hz] at EC EZ EW EJ
    have WZ := Lib.hid (show (Lit.int .i64 z).wf = true from by
      obtain ⟨a, rfl, h1, _⟩ := lb_nat EZ
      exact WalkArith.wf_i64 (by constructor <;> omega))
    replace EC := Lib.hid EC.symm
    replace EZ := Lib.hid EZ
    clear hz hx0 hx1 hy0 hy1
    obtain ⟨vx, EX⟩ : ∃ v, mIsLabel x = v := ⟨_, rfl⟩
    obtain ⟨vy, EY⟩ : ∃ v, mIsLabel y = v := ⟨_, rfl⟩
    go_wp2_with fail
    refine Calls.mono (jl_eq x y z HZ.out _ WX.out WY.out) ?_
    rintro e w3 ⟨rfl, hb⟩
    replace HB := Lib.hid (below_trans HB.out hb (Nat.le_refl _))
    clear hb
    go_upto_region 5 with fail
    try simp only [Act.put]
    go_cut [38] (fun s38 wx => s38 = .bool false ∧ Hid (Below w.heap.size w wx))
    case first =>
      go_wp2_with fail
      refine Calls.mono (jl_eq y x z EC.out _ WY.out WX.out) ?_
      rintro e w4 ⟨rfl, hb⟩
      replace HB := Lib.hid (below_trans HB.out hb (Nat.le_refl _))
      clear hb
      go_wp2_with fail
      refine Calls.mono (isl_eq z _ EZ.out _) ?_
      rintro e w5 ⟨rfl, hb⟩
      replace HB := Lib.hid (below_trans HB.out hb (Nat.le_refl _))
      clear hb
      go_wp2_with fail
      refine Calls.mono (isl_eq x _ EX _) ?_
      rintro e w6 ⟨rfl, hb⟩
      replace HB := Lib.hid (below_trans HB.out hb (Nat.le_refl _))
      clear hb
      cases vx with
      | false =>
        go_wp2_with fail
        go_meet
        case rel => exact ⟨by first | rfl | simp, HB⟩
      | true =>
        go_wp2_with fail
        refine Calls.mono (implOwn x _) ?_
        rintro e w7 ⟨A3, c3, rfl, hF, hb⟩
        replace HB := Lib.hid (below_trans HB.out hb (Nat.le_refl _))
        clear hb
        have HF := Lib.hid hF.rd
        clear hF
        have hl3 := mOwn_len x
        go_wp2_with fail
        refine Calls.mono (lo_eq (mOwn x) A3 (mOwn x).length c3 _ _ x _ (EO.out EX) (by omega) HF.out (Lib.hid (fun z hz => by have := own_in hz; omega))) ?_
        rintro e w8 ⟨rfl, hb⟩
        replace HB := Lib.hid (below_trans HB.out hb (Nat.le_refl _))
        clear hb
        go_wp2_with fail
        go_meet
        case rel => exact ⟨by first | rfl | simp, HB⟩
    case rest =>
      obtain ⟨rfl, HB⟩ := hcut
      go_upto_region 7 with fail
      try simp only [Act.put]
      go_cut [44] (fun s44 wx => s44 = .bool (vx && vy) ∧ Hid (Below w.heap.size w wx))
      case first =>
        go_wp2_with fail
        refine Calls.mono (isl_eq x _ EX _) ?_
        rintro e w5 ⟨rfl, hb⟩
        replace HB := Lib.hid (below_trans HB.out hb (Nat.le_refl _))
        clear hb
        cases vx with
        | false =>
          go_wp2_with fail
          go_meet
          case rel => exact ⟨by first | rfl | simp, HB⟩
        | true =>
          go_wp2_with fail
          refine Calls.mono (isl_eq y _ EY _) ?_
          rintro e w6 ⟨rfl, hb⟩
          replace HB := Lib.hid (below_trans HB.out hb (Nat.le_refl _))
          clear hb
          go_wp2_with fail
          go_meet
          case rel => exact ⟨by first | rfl | simp, HB⟩
      case rest =>
        obtain ⟨rfl, HB⟩ := hcut
        go_upto_if 44 with fail
        go_cut [3] (fun s3 wx => s3 = .int .i64 x ∧ Hid (Below w.heap.size w wx))
        case first =>
          cases vx with
          | false =>
            simp only [Bool.false_and]
            go_wp2_with fail
            go_meet
            case rel => exact ⟨rfl, HB⟩
          | true =>
            cases vy with
            | false =>
              simp only [Bool.and_false]
              go_wp2_with fail
              go_meet
              case rel => exact ⟨rfl, HB⟩
            | true =>
              simp only [Bool.and_self]
              obtain ⟨w1a, w1b, w1c⟩ := EW.out EX EY
              have W1 := Lib.hid w1a
              have W2 := Lib.hid w1b
              have W3 := Lib.hid w1c
              clear w1a w1b w1c
              go_wp2_with fail
              refine Calls.mono (lw_eq x z _ W1.out _ WX.out WZ.out) ?_
              rintro e w6 ⟨rfl, hb⟩
              replace HB := Lib.hid (below_trans HB.out hb (Nat.le_refl _))
              clear hb
              go_wp2_with fail
              refine Calls.mono (lw_eq y z _ W2.out _ WY.out WZ.out) ?_
              rintro e w7 ⟨rfl, hb⟩
              replace HB := Lib.hid (below_trans HB.out hb (Nat.le_refl _))
              clear hb
              go_wp2_with fail
              refine Calls.mono (lw_eq x y _ W3.out _ WX.out WY.out) ?_
              rintro e w8 ⟨rfl, hb⟩
              replace HB := Lib.hid (below_trans HB.out hb (Nat.le_refl _))
              clear hb
              obtain ⟨qv, hqv⟩ : ∃ v, (z == y) = v := ⟨_, rfl⟩
              rw [hqv]
              go_wp2_with fail
              go_loopg [6] 9 (fun gg s6 wr => ∃ k : Nat, k ≤ 9 ∧ 9 - k ≤ gg ∧ s6 = .int .i64 ((k : Int) + 1) ∧ Hid (Below w.heap.size w wr))
              case atStart => exact ⟨0, Nat.zero_le _, by omega, by simp, HB⟩
              case round =>
                clear HB
                obtain ⟨k, hk, hg, rfl, HB⟩ := hrel
                have ek : IntKind.i64.wrap ((k : Int) + 1 + 1) = (k : Int) + 1 + 1 := IntWalk.i64_in _ (by omega)
                by_cases hlt : k < 9
                · skip
                  have hle : (k : Int) + 1 ≤ 9 := by omega
                  have EQ := Lib.hid (EJ.out EX EY ((k : Int) + 1) (by omega) hle)
                  obtain ⟨d1, D1⟩ : ∃ v, decide ((k : Int) + 1 ∈ mOwn x) = v := ⟨_, rfl⟩
                  obtain ⟨d2, D2⟩ : ∃ v, decide ((k : Int) + 1 ∈ mOwn y) = v := ⟨_, rfl⟩
                  replace EQ := Lib.hid (show decide ((k : Int) + 1 ∈ mOwn z) = (d1 || d2) by rw [EQ.out, D1, D2])
                  replace D1 := Lib.hid D1
                  replace D2 := Lib.hid D2
                  go_wp2_with fail
                  refine Calls.mono (implOwn z _) ?_
                  rintro e w9 ⟨A5, c5, rfl, hF, hb⟩
                  replace HB := Lib.hid (below_trans HB.out hb (Nat.le_refl _))
                  clear hb
                  have HF5 := Lib.hid hF.rd
                  clear hF
                  have hl5 := mOwn_len z
                  go_wp2_with fail
                  refine Calls.mono (ct_eq (mOwn z) A5 (mOwn z).length c5 _ _ ((k : Int) + 1) (d1 || d2) _ EQ.out (by omega) HF5.out) ?_
                  rintro e w10 ⟨rfl, hb⟩
                  replace HB := Lib.hid (below_trans HB.out hb (Nat.le_refl _))
                  clear hb
                  go_wp2_with fail
                  refine Calls.mono (implOwn x _) ?_
                  rintro e w11 ⟨A6, c6, rfl, hF, hb⟩
                  replace HB := Lib.hid (below_trans HB.out hb (Nat.le_refl _))
                  clear hb
                  have HF6 := Lib.hid hF.rd
                  clear hF
                  have hl6 := mOwn_len x
                  go_wp2_with fail
                  refine Calls.mono (ct_eq (mOwn x) A6 (mOwn x).length c6 _ _ ((k : Int) + 1) d1 _ D1.out (by omega) HF6.out) ?_
                  rintro e w12 ⟨rfl, hb⟩
                  replace HB := Lib.hid (below_trans HB.out hb (Nat.le_refl _))
                  clear hb
                  cases d1 with
                  | true =>
                    go_wp2_with fail
                    go_roundg (9 - (k + 1))
                    case measure => omega
                    case rel => exact ⟨k + 1, by omega, by omega, by go_num, HB⟩
                  | false =>
                    go_wp2_with fail
                    refine Calls.mono (implOwn y _) ?_
                    rintro e w13 ⟨A7, c7, rfl, hF, hb⟩
                    replace HB := Lib.hid (below_trans HB.out hb (Nat.le_refl _))
                    clear hb
                    have HF7 := Lib.hid hF.rd
                    clear hF
                    have hl7 := mOwn_len y
                    go_wp2_with fail
                    refine Calls.mono (ct_eq (mOwn y) A7 (mOwn y).length c7 _ _ ((k : Int) + 1) d2 _ D2.out (by omega) HF7.out) ?_
                    rintro e w14 ⟨rfl, hb⟩
                    replace HB := Lib.hid (below_trans HB.out hb (Nat.le_refl _))
                    clear hb
                    cases d2 with
                    | false =>
                      go_wp2_with fail
                      go_roundg (9 - (k + 1))
                      case measure => omega
                      case rel => exact ⟨k + 1, by omega, by omega, by go_num, HB⟩
                    | true =>
                      go_wp2_with fail
                      go_roundg (9 - (k + 1))
                      case measure => omega
                      case rel => exact ⟨k + 1, by omega, by omega, by go_num, HB⟩
                · obtain rfl : k = 9 := by omega
                  go_wp2_with fail
                  go_meet
                  case rel => exact ⟨rfl, HB⟩
        case rest =>
          obtain ⟨rfl, HB⟩ := hcut
          clear EO EW EJ EC WY WZ EY
          go_wp2_with fail
          refine Calls.mono (drawLO_any n0 c0 A0 _ (by omega) (bytes_below M0.out HB.out)) ?_
          rintro e w7 ⟨AL, cL, l, rfl, hl, hu, hr, hb⟩
          replace HB := Lib.hid (below_trans HB.out hb (Nat.le_refl _))
          clear hb
          have HR := Lib.hid hr
          have HI := Lib.hid (show I64s l from fun z hz => by have := hu z hz; omega)
          clear hr hu
          obtain ⟨hL1, hL2⟩ := labS_label l
          obtain ⟨L, hL⟩ : ∃ L : Int, ((mLabS l 9 : Nat) : Int) = L := ⟨_, rfl⟩
          rw [hL] at hL1 hL2
          have HL := Lib.hid hL
          have HL1 := Lib.hid hL1
          have HL2 := Lib.hid hL2
          clear hL hL1 hL2
          go_wp2_with fail
          refine Calls.mono (lo_eq l AL l.length cL _ _ L _ HL.out (by omega) HR.out HI) ?_
          rintro e w8 ⟨rfl, hb⟩
          replace HR := Lib.hid (HR.out.new hb)
          replace HB := Lib.hid (below_trans HB.out hb (Nat.le_refl _))
          clear hb
          go_wp2_with fail
          refine Calls.mono (isl_eq L _ HL1.out _) ?_
          rintro e w9 ⟨rfl, hb⟩
          replace HR := Lib.hid (HR.out.new hb)
          replace HB := Lib.hid (below_trans HB.out hb (Nat.le_refl _))
          clear hb
          go_wp2_with fail
          refine Calls.mono (lo_eq l AL l.length cL _ _ L _ HL.out (by omega) HR.out HI) ?_
          rintro e w10 ⟨rfl, hb⟩
          replace HR := Lib.hid (HR.out.new hb)
          replace HB := Lib.hid (below_trans HB.out hb (Nat.le_refl _))
          clear hb
          go_wp2_with fail
          refine Calls.mono (implOwn L _) ?_
          rintro e w11 ⟨A8, c8, rfl, hF, hb⟩
          replace HR := Lib.hid (HR.out.new hb)
          replace HB := Lib.hid (below_trans HB.out hb (Nat.le_refl _))
          clear hb
          have HF8 := Lib.hid hF.rd
          clear hF
          have hl8 := mOwn_len L
          go_wp2_with fail
          refine Calls.mono (says_of_same (laws_within (mOwn L) l A8 AL (mOwn L).length c8 l.length cL _ _ _ _ _ (by omega) (by omega) HF8.out HR.out HL2.out)) ?_
          rintro e w12 ⟨rfl, hb⟩
          replace HR := Lib.hid (HR.out.new hb)
          replace HB := Lib.hid (below_trans HB.out hb (Nat.le_refl _))
          clear hb
          obtain ⟨st, hst⟩ : ∃ st : ByteArray, st = ⟨(tLab x).toArray⟩ := ⟨_, rfl⟩
          have HS : (st.toList == [45]) = decide ((mOwn x).length = 0) := by rw [hst, tLab_str]
          have CT := Lib.hid (fun (W : World) (hb : Below w.heap.size w W) => show Calls Tryd.prog 24 #[.int .i64 x] W (Says (.string st) W) by rw [hst]; exact impl_LabelText x W (pow10_below HT.out hb))
          clear hst
          replace HS := Lib.hid HS
          go_wp2_with fail
          refine Calls.mono (CT.out _ HB.out) ?_
          rintro e w13 ⟨rfl, hb⟩
          replace HR := Lib.hid (HR.out.new hb)
          replace HB := Lib.hid (below_trans HB.out hb (Nat.le_refl _))
          clear hb
          go_wp2_with fail
          refine Calls.mono (implOwn x _) ?_
          rintro e w14 ⟨A9, c9, rfl, hF, hb⟩
          replace HR := Lib.hid (HR.out.new hb)
          replace HB := Lib.hid (below_trans HB.out hb (Nat.le_refl _))
          clear hb
          clear hF
          have hl9 := mOwn_len x
          by_cases h0 : (mOwn x).length = 0
          · skip
            have HS' : (st.toList == [45]) = true := by rw [HS.out]; simp [h0]
            clear HS
            go_wp2_with fail
            go_ret
            exact ⟨by first | rfl | simp [HS', h0], HB.out⟩
          · skip
            have HS' : (st.toList == [45]) = false := by rw [HS.out]; simp [h0]
            clear HS
            go_wp2_with fail
            go_ret
            exact ⟨by first | rfl | simp [HS', h0], HB.out⟩
  · have g : decide ((1048576 : Int) < n0) = true := by simp; omega
    go_enter Tryd.func4, Tryd.ntmps4
    go_wp2_with fail
    refine (big_any n0 c0 A0 _ w0).mono ?_
    rintro e w1 ⟨rfl, rfl⟩
    rw [g]
    go_wp2_with fail
    go_ret
    exact ⟨rfl, Below.refl _ _⟩

set_option maxRecDepth 100000 in
theorem lifted (os : Os) (started : os.Started) (H : Type) (enc : TypeId × Value → H) :
    ReturnsInHanded {} Tryd.checked os 4 .any (fun w args => (Rows.fnLabelsSpec.pre enc Tryd.prog Tryd.f4 [] false w args ∧ laidMetH Tryd.prog laidVars w) ∧ sizedMet enc Tryd.prog Tryd.f4 (OpenSpec.ofChange Rows.fnLabelsSpec) false w args) (Rows.fnLabelsSpec.post enc Tryd.prog Tryd.f4 false true false false) := by
  refine law_lifted_laid Tryd.func4 (by kernel_rfl) rfl rfl (by kernel_rfl) os started
    (ChangeSpec.witness_shaped (enc := enc) (C := Tryd.checked) (os := os) (X := fun w _ => laidMetH Tryd.prog laidVars w) false (World.laidAll Tryd.prog os laidVars) #[.slice none 0 0] 8 (World.laidAll_os _ _ _)
      (World.shaped_of_ZipB (by kernel_rfl) (by kernel_rfl)) (by kernel_rfl) (by kernel_rfl) (by kernel_rfl)
      (by rw [MakeChecks.laidMetH_plain _ _ _ (by kernel_rfl)]; exact laidMet_laidAll _ (by kernel_rfl) (by kernel_rfl))) ?_
  intro W base args ds p hT hval hA hlt
  rw [Tryd.params4] at hA hval
  obtain ⟨v0, vs0, d0, ds0, p0, q0, hargs, rfl, rfl, h0, r0⟩ := trodAll_cons hA
  obtain ⟨rfl, rfl, rfl⟩ := trodAll_nil r0
  obtain rfl : args = #[v0] := by cases args; simp_all
  obtain ⟨A0, n0, c0, rfl, w0, m0⟩ := open_bytes (hval 0 22 v0 rfl rfl) h0 (fun x hx => hlt x (by simp [hx]))
  exact ⟨⟨rfl, rfl, rfl⟩, walk A0 n0 c0 w0 W m0 hT⟩

theorem over : Rows.fnLabelsRow.holds Tryd.pinned (OpenSpec.ofChange Rows.fnLabelsSpec) :=
  OpenClaim.holds_of_wide 4 Tryd.f4 rfl rfl rfl rfl rfl rfl rfl ⟨rfl, rfl, rfl, rfl, rfl⟩ rfl rfl rfl rfl rfl (by kernel_rfl) Tryd.func4 (by kernel_rfl)
    (of_decide_eq_true (by kernel_rfl)) (by unfold Func.isWrapper; first | (rw [if_pos (by decide +kernel)]; kernel_rfl) | (rw [if_neg (by decide +kernel)]; exact ⟨rfl, rfl⟩))
    (fun os started H enc _ => lifted os started H enc)

theorem proved : Rows.FnLabelsCardSaid :=
  Claim7.holds_tied_plain_at .later [] [.data, .data, .data] true Rows.fnLabelsCard.stood.harness true over (fun _ h => by cases h) (by kernel_rfl) (fun _ h => by cases h) fnLabels_row_tie rfl ⟨rfl, rfl⟩ (by kernel_rfl) rfl
    (fun f fn hf hfn => by
      obtain rfl : f = 4 := Option.some.inj ((show Tryd.prog.funcNamed "loop.example/g03001/laws.FnLabels" = some 4 by kernel_rfl).symm.trans hf) |>.symm
      obtain rfl : fn = Tryd.f4 := (Option.some.inj (Tryd.func4.symm.trans hfn)).symm
      exact ⟨by kernel_rfl, fun j t ht => by
        rw [Tryd.params4] at ht
        have hm : t ∈ [22] := by simpa using Array.mem_of_getElem? ht
        have hall : ([22].all fun u => !Tryd.prog.wantsStandIn u) = true := by kernel_rfl
        exact (show Tryd.prog.wantsStandIn t = false by simpa using List.all_eq_true.1 hall t hm)⟩)
    (by kernel_rfl)
#print axioms proved
end Go.Proofs.YtlnmgfbfpjfddaaDoor.fnLabels
