/- The law FnQuotas answers true for every argument, and leaves each argument as it was. No condition. -/
import Derived.Test.YtlnmgfbfpjfddaaFrame
import Derived.Test.YtlnmgfbfpjfddaaQtM
import Derived.Test.YtlnmgfbfpjfddaaDrV
import Derived.Deep.DeepCutAuto
namespace Go.Proofs.Ytlnmgfbfpjfddaa.fnQuotas
open Go Go.ChangeShapes Go.WideShapes Go.ChangeAt Go.RowKit Go.Lib
open Go.ChangeMaps (open_string)
set_option linter.unusedVariables false
set_option linter.unusedSimpArgs false
set_option maxRecDepth 100000
set_option maxHeartbeats 32000000 in

theorem walk (A0 : Option Addr) (n0 c0 : Nat) (w0 : n0 ≤ maxLen) (w : World) (m0 : BytesAt w w.heap.size A0 n0) :
    Calls Try.prog 7 #[.slice A0 n0 c0] w fun e w' => e = .returned (.bool true) ∧ Below w.heap.size w w' := by
  have hn0 : n0 ≤ 9223372036854775807 := w0
  by_cases h : n0 ≤ 1048576
  · skip
    have g : decide ((1048576 : Int) < n0) = false := by simp; omega
    have M0 := Lib.hid m0
    clear m0
    go_enter Try.func7, Try.ntmps7
    go_wp2_with fail
    refine (big_any n0 c0 A0 _ w0).mono ?_
    rintro e w1 ⟨rfl, rfl⟩
    rw [g]
    have HB := Lib.hid (Below.refl w.heap.size w)
    go_wp2_with fail
    refine Calls.mono (drawAR_any n0 c0 A0 _ (by omega) (bytes_below M0.out HB.out)) ?_
    rintro e w2 ⟨A1, c1, l, z, rfl, hl, hu, hz, hcp, hr, hb⟩
    replace HB := Lib.hid (below_trans HB.out hb (Nat.le_refl _))
    clear hb
    have hsz1 : w.heap.size ≤ w2.heap.size := HB.out.size
    have HU := Lib.hid (show cRuleOk l from hu)
    have HZ := Lib.hid hz
    have WZ := Lib.hid (show (Lit.int .i64 z.f0).wf = true from WalkArith.wf_i64 (by unfold TRule.fit at hz; constructor <;> omega))
    obtain ⟨hi1, hh1⟩ : ∃ z, z = w2.heap.size := ⟨_, rfl⟩
    have HR := Lib.hid (show Rd w2 w.heap.size hi1 8 A1 l.length (cRule l) by rw [hh1]; exact hr)
    have hh1' : hi1 ≤ w2.heap.size := by omega
    clear hh1 hu hr hz
    have KR := Lib.hid (show BoxAt (World.alloc w2 (.cells #[.int .i64 0, .int .i64 0, .int .i64 0, .int .i64 0, .int .i64 0, .int .i64 0, .int .i64 0, .int .i64 0] 28)) w2.heap.size 28 #[.int .i64 0, .int .i64 0, .int .i64 0, .int .i64 0, .int .i64 0, .int .i64 0, .int .i64 0, .int .i64 0] from by simpa using box_new w2 28 #[.int .i64 0, .int .i64 0, .int .i64 0, .int .i64 0, .int .i64 0, .int .i64 0, .int .i64 0, .int .i64 0])
    replace HR := Lib.hid (HR.out.alloc (.cells #[.int .i64 0, .int .i64 0, .int .i64 0, .int .i64 0, .int .i64 0, .int .i64 0, .int .i64 0, .int .i64 0] 28))
    replace HB := Lib.hid (HB.out.alloc (by have := HB.out.size; (try simp at this ⊢); omega) (.cells #[.int .i64 0, .int .i64 0, .int .i64 0, .int .i64 0, .int .i64 0, .int .i64 0, .int .i64 0, .int .i64 0] 28))
    obtain ⟨w3, hx⟩ : ∃ X, X = World.setRow (World.alloc w2 (.cells #[.int .i64 0, .int .i64 0, .int .i64 0, .int .i64 0, .int .i64 0, .int .i64 0, .int .i64 0, .int .i64 0] 28)) w2.heap.size #[.int .i64 z.f0, .int .i64 z.f1, .int .i64 z.f2, .int .i64 z.f3, .int .i64 z.f4, .int .i64 z.f5, .int .i64 z.f6, .int .i64 z.f7] := ⟨_, rfl⟩
    have HX3 := Lib.hid hx
    have OLD3 := KR
    replace KR := Lib.hid (show BoxAt w3 w2.heap.size 28 #[.int .i64 z.f0, .int .i64 z.f1, .int .i64 z.f2, .int .i64 z.f3, .int .i64 z.f4, .int .i64 z.f5, .int .i64 z.f6, .int .i64 z.f7] by rw [hx]; exact box_row KR.out)
    replace HR := Lib.hid (show Rd w3 w.heap.size hi1 8 A1 l.length (cRule l) by rw [hx]; exact HR.out.keep fun b _ hb1 _ => setRow_other _ _ b _ (by omega))
    replace HB := Lib.hid (show Below w.heap.size w w3 by rw [hx]; exact below_setRow HB.out (by omega) _)
    clear hx
    have lKR : w2.heap.size < w3.heap.size := KR.out.lt
    have kKR0 := KR.out.at_ (j := 0) rfl
    have kKR1 := KR.out.at_ (j := 1) rfl
    have kKR2 := KR.out.at_ (j := 2) rfl
    have kKR3 := KR.out.at_ (j := 3) rfl
    have kKR4 := KR.out.at_ (j := 4) rfl
    have kKR5 := KR.out.at_ (j := 5) rfl
    have kKR6 := KR.out.at_ (j := 6) rfl
    have kKR7 := KR.out.at_ (j := 7) rfl
    go_wp2_with (refine wpList_store_row rfl 28 _ _ rfl w2.heap.size #[.int .i64 z.f0, .int .i64 z.f1, .int .i64 z.f2, .int .i64 z.f3, .int .i64 z.f4, .int .i64 z.f5, .int .i64 z.f6, .int .i64 z.f7] rfl rfl 28 _ OLD3.out (by kernel_rfl) (by kernel_rfl) (by kernel_rfl) ?_; rw [← HX3.out]; clear HX3 OLD3)
    clear kKR0 kKR1 kKR2 kKR3 kKR4 kKR5 kKR6 kKR7
    refine Calls.mono (impl_AddRule l A1 l.length c1 _ _ z _ (by omega) HR.out HU HZ) ?_
    rintro e w4 ⟨A3, c3, rfl, hF, hb⟩
    replace KR := Lib.hid (KR.out.new hb)
    replace HR := Lib.hid (HR.out.new hb)
    replace HB := Lib.hid (below_trans HB.out hb (Nat.le_refl _))
    clear hb
    have lKR : w2.heap.size < w4.heap.size := KR.out.lt
    have hcx := hF.cap
    have HX := Lib.hid hF.rd
    clear hF
    obtain ⟨ok, hok⟩ : ∃ v, mCan l z = v := ⟨_, rfl⟩
    rw [hok]
    obtain ⟨x, hx⟩ : ∃ x, x = mRAdd l z := ⟨_, rfl⟩
    rw [← hx] at HX hcx ⊢
    have HXE := Lib.hid hx
    clear hx
    go_upto_region 5 with fail
    try simp only [Act.put]
    go_cut [5, 64] (fun s5 s64 wx => s5 = .slice A3 x.length c3 ∧ s64 = .bool false ∧ Hid (BoxAt wx w2.heap.size 28 #[.int .i64 z.f0, .int .i64 z.f1, .int .i64 z.f2, .int .i64 z.f3, .int .i64 z.f4, .int .i64 z.f5, .int .i64 z.f6, .int .i64 z.f7]) ∧ Hid (Below w.heap.size w wx))
    case first =>
      cases ok with
      | false =>
        have hxl : x = l := by rw [HXE.out, mRAdd_no hok]
        clear HXE
        subst hxl
        have kKR0 := KR.out.at_ (j := 0) rfl
        have kKR1 := KR.out.at_ (j := 1) rfl
        have kKR2 := KR.out.at_ (j := 2) rfl
        have kKR3 := KR.out.at_ (j := 3) rfl
        have kKR4 := KR.out.at_ (j := 4) rfl
        have kKR5 := KR.out.at_ (j := 5) rfl
        have kKR6 := KR.out.at_ (j := 6) rfl
        have kKR7 := KR.out.at_ (j := 7) rfl
        go_wp2_with fail
        clear kKR0 kKR1 kKR2 kKR3 kKR4 kKR5 kKR6 kKR7
        refine Calls.mono (qcan_eq x A1 x.length c1 _ _ z _ hok _ (by omega) HR.out HU HZ) ?_
        rintro e w5 ⟨rfl, hb⟩
        replace KR := Lib.hid (KR.out.new hb)
        replace HR := Lib.hid (HR.out.new hb)
        replace HX := Lib.hid (HX.out.new hb)
        replace HB := Lib.hid (below_trans HB.out hb (Nat.le_refl _))
        clear hb
        have lKR : w2.heap.size < w5.heap.size := KR.out.lt
        have kKR0 := KR.out.at_ (j := 0) rfl
        have kKR1 := KR.out.at_ (j := 1) rfl
        have kKR2 := KR.out.at_ (j := 2) rfl
        have kKR3 := KR.out.at_ (j := 3) rfl
        have kKR4 := KR.out.at_ (j := 4) rfl
        have kKR5 := KR.out.at_ (j := 5) rfl
        have kKR6 := KR.out.at_ (j := 6) rfl
        have kKR7 := KR.out.at_ (j := 7) rfl
        go_wp2_with fail
        clear kKR0 kKR1 kKR2 kKR3 kKR4 kKR5 kKR6 kKR7
        refine Calls.mono (qeqr_eq x A3 x.length c3 _ _ A1 x.length c1 _ _ _ (by omega) HX.out (by omega) HR.out HU) ?_
        rintro e w6 ⟨rfl, hb⟩
        replace KR := Lib.hid (KR.out.new hb)
        replace HR := Lib.hid (HR.out.new hb)
        replace HX := Lib.hid (HX.out.new hb)
        replace HB := Lib.hid (below_trans HB.out hb (Nat.le_refl _))
        clear hb
        have lKR : w2.heap.size < w6.heap.size := KR.out.lt
        go_wp2_with fail
        go_meet
        case rel => exact ⟨rfl, by first | rfl | simp, KR, HB⟩
      | true =>
        obtain ⟨P1, P2⟩ := can_parts hok
        have hxl : x = l ++ [z] := by rw [HXE.out, mRAdd_yes hok]
        have hxn : x.length = l.length + 1 := by rw [hxl]; simp
        have HUX := Lib.hid (show cRuleOk x from fun y hy => by
          rw [hxl] at hy
          rcases List.mem_append.1 hy with hy | hy
          · exact HU.out y hy
          · rw [List.mem_singleton.1 hy]; exact HZ.out)
        obtain ⟨f1, EF⟩ : ∃ v, mFair l = v := ⟨_, rfl⟩
        obtain ⟨rm, ER⟩ : ∃ v, mRoom l z.f0 = v := ⟨_, rfl⟩
        rw [ER] at P2
        have gr : decide (rm < 1) = false := decide_eq_false (by omega)
        have hrm : ¬ rm < 1 := by omega
        have hw1 : IntKind.i64.wrap ((l.length : Int) + 1) = (l.length : Int) + 1 := IntWalk.i64_in _ (by omega)
        have hnb : (((l.length + 1 : Nat) : Int) != (l.length : Int) + 1) = false := by simp
        have hnc : ((l.length : Int) + 1 != (l.length : Int) + 1) = false := by simp
        have EFX := Lib.hid (show f1 = true → mFair x = true from fun e => by rw [hxl]; exact fair_add (EF.trans e) hok)
        have HL := Lib.hid hxl
        clear HXE hxl
        rw [hxn] at HX hcx ⊢
        have kKR0 := KR.out.at_ (j := 0) rfl
        have kKR1 := KR.out.at_ (j := 1) rfl
        have kKR2 := KR.out.at_ (j := 2) rfl
        have kKR3 := KR.out.at_ (j := 3) rfl
        have kKR4 := KR.out.at_ (j := 4) rfl
        have kKR5 := KR.out.at_ (j := 5) rfl
        have kKR6 := KR.out.at_ (j := 6) rfl
        have kKR7 := KR.out.at_ (j := 7) rfl
        go_wp2_with fail
        clear kKR0 kKR1 kKR2 kKR3 kKR4 kKR5 kKR6 kKR7
        refine Calls.mono (qcan_eq l A1 l.length c1 _ _ z _ hok _ (by omega) HR.out HU HZ) ?_
        rintro e w5 ⟨rfl, hb⟩
        replace KR := Lib.hid (KR.out.new hb)
        replace HR := Lib.hid (HR.out.new hb)
        replace HX := Lib.hid (HX.out.new hb)
        replace HB := Lib.hid (below_trans HB.out hb (Nat.le_refl _))
        clear hb
        have lKR : w2.heap.size < w5.heap.size := KR.out.lt
        have kKR0 := KR.out.at_ (j := 0) rfl
        have kKR1 := KR.out.at_ (j := 1) rfl
        have kKR2 := KR.out.at_ (j := 2) rfl
        have kKR3 := KR.out.at_ (j := 3) rfl
        have kKR4 := KR.out.at_ (j := 4) rfl
        have kKR5 := KR.out.at_ (j := 5) rfl
        have kKR6 := KR.out.at_ (j := 6) rfl
        have kKR7 := KR.out.at_ (j := 7) rfl
        go_wp2_with fail
        clear kKR0 kKR1 kKR2 kKR3 kKR4 kKR5 kKR6 kKR7
        refine Calls.mono (qfair_eq l A1 l.length c1 _ _ _ EF _ (by omega) HR.out hcp HU) ?_
        rintro e w6 ⟨rfl, hb⟩
        replace KR := Lib.hid (KR.out.new hb)
        replace HR := Lib.hid (HR.out.new hb)
        replace HX := Lib.hid (HX.out.new hb)
        replace HB := Lib.hid (below_trans HB.out hb (Nat.le_refl _))
        clear hb
        have lKR : w2.heap.size < w6.heap.size := KR.out.lt
        cases f1 with
        | false =>
          have kKR0 := KR.out.at_ (j := 0) rfl
          have kKR1 := KR.out.at_ (j := 1) rfl
          have kKR2 := KR.out.at_ (j := 2) rfl
          have kKR3 := KR.out.at_ (j := 3) rfl
          have kKR4 := KR.out.at_ (j := 4) rfl
          have kKR5 := KR.out.at_ (j := 5) rfl
          have kKR6 := KR.out.at_ (j := 6) rfl
          have kKR7 := KR.out.at_ (j := 7) rfl
          go_wp2_with fail
          clear kKR0 kKR1 kKR2 kKR3 kKR4 kKR5 kKR6 kKR7
          refine Calls.mono (qroom_eq l A1 l.length c1 _ _ z.f0 _ ER _ (by omega) HR.out HU WZ.out) ?_
          rintro e w7 ⟨rfl, hb⟩
          replace KR := Lib.hid (KR.out.new hb)
          replace HR := Lib.hid (HR.out.new hb)
          replace HX := Lib.hid (HX.out.new hb)
          replace HB := Lib.hid (below_trans HB.out hb (Nat.le_refl _))
          clear hb
          have lKR : w2.heap.size < w7.heap.size := KR.out.lt
          go_wp2_with fail
          go_meet
          case rel => exact ⟨by rw [hxn], by first | rfl | simp, KR, HB⟩
        | true =>
          have kKR0 := KR.out.at_ (j := 0) rfl
          have kKR1 := KR.out.at_ (j := 1) rfl
          have kKR2 := KR.out.at_ (j := 2) rfl
          have kKR3 := KR.out.at_ (j := 3) rfl
          have kKR4 := KR.out.at_ (j := 4) rfl
          have kKR5 := KR.out.at_ (j := 5) rfl
          have kKR6 := KR.out.at_ (j := 6) rfl
          have kKR7 := KR.out.at_ (j := 7) rfl
          go_wp2_with fail
          clear kKR0 kKR1 kKR2 kKR3 kKR4 kKR5 kKR6 kKR7
          refine Calls.mono (qfair_eq x A3 (l.length + 1) c3 _ _ _ (EFX.out (by first | trivial | rfl)) _ (by omega) HX.out hcx HUX) ?_
          rintro e w7 ⟨rfl, hb⟩
          replace KR := Lib.hid (KR.out.new hb)
          replace HR := Lib.hid (HR.out.new hb)
          replace HX := Lib.hid (HX.out.new hb)
          replace HB := Lib.hid (below_trans HB.out hb (Nat.le_refl _))
          clear hb
          have lKR : w2.heap.size < w7.heap.size := KR.out.lt
          have kKR0 := KR.out.at_ (j := 0) rfl
          have kKR1 := KR.out.at_ (j := 1) rfl
          have kKR2 := KR.out.at_ (j := 2) rfl
          have kKR3 := KR.out.at_ (j := 3) rfl
          have kKR4 := KR.out.at_ (j := 4) rfl
          have kKR5 := KR.out.at_ (j := 5) rfl
          have kKR6 := KR.out.at_ (j := 6) rfl
          have kKR7 := KR.out.at_ (j := 7) rfl
          go_wp2_with fail
          clear kKR0 kKR1 kKR2 kKR3 kKR4 kKR5 kKR6 kKR7
          refine Calls.mono (qroom_eq l A1 l.length c1 _ _ z.f0 _ ER _ (by omega) HR.out HU WZ.out) ?_
          rintro e w8 ⟨rfl, hb⟩
          replace KR := Lib.hid (KR.out.new hb)
          replace HR := Lib.hid (HR.out.new hb)
          replace HX := Lib.hid (HX.out.new hb)
          replace HB := Lib.hid (below_trans HB.out hb (Nat.le_refl _))
          clear hb
          have lKR : w2.heap.size < w8.heap.size := KR.out.lt
          go_wp2_with fail
          go_meet
          case rel => exact ⟨by rw [hxn], by first | rfl | simp, KR, HB⟩
    case rest =>
      clear KR HB HR HX lKR
      obtain ⟨rfl, rfl, KR, HB⟩ := hcut
      have lKR : w2.heap.size < wc.heap.size := KR.out.lt
      have hszc : w.heap.size ≤ wc.heap.size := HB.out.size
      clear hl hcp hcx HU HZ WZ HXE hok
      go_wp2_with fail
      refine Calls.mono (drawDR_any n0 c0 A0 _ (by omega) (bytes_below M0.out HB.out)) ?_
      rintro e w6 ⟨A5, c5, a, y, rfl, ha, hu2, hy0, hy1, hcp, hr, hb⟩
      replace HB := Lib.hid (below_trans HB.out hb (Nat.le_refl _))
      clear hb
      have HA := Lib.hid hr
      have HUA := Lib.hid (show cRuleOk a from hu2)
      have WY := Lib.hid (show (Lit.int .i64 y).wf = true from WalkArith.wf_i64 (by constructor <;> omega))
      clear hr hu2
      go_wp2_with fail
      refine Calls.mono (impl_DropRules a A5 a.length c5 _ _ y _ (by omega) HA.out HUA WY.out) ?_
      rintro e w7 ⟨A6, c6, rfl, hF, hb⟩
      replace HA := Lib.hid (HA.out.new hb)
      replace HB := Lib.hid (below_trans HB.out hb (Nat.le_refl _))
      clear hb
      have HD := Lib.hid hF.rd
      clear hF
      have HUD := rfilter_ok (fun x : TRule => x.f0 != y) HUA
      have hle := List.length_filter_le (fun x : TRule => x.f0 != y) a
      have hsp := split_len a y
      have hle2 := List.length_filter_le (fun x : TRule => x.f0 == y) a
      obtain ⟨ra, EA⟩ : ∃ v, mRoom a y = v := ⟨_, rfl⟩
      obtain ⟨rb, EB⟩ : ∃ v, mRoom (a.filter fun x => x.f0 != y) y = v := ⟨_, rfl⟩
      have h0 := room_nonneg a y
      have h1 := room_drop a y
      have hno := drop_none a y
      rw [EA] at h0 h1
      rw [EB] at h1
      generalize (a.filter fun x => x.f0 != y) = d at HD HUD hle hsp EB hno ⊢
      have g1 : decide (rb ≥ ra) = true := decide_eq_true h1
      have g2 : decide (ra ≤ rb) = true := decide_eq_true h1
      have g3 : decide (ra ≥ 0) = true := decide_eq_true h0
      have g4 : decide (0 ≤ ra) = true := decide_eq_true h0
      go_wp2_with fail
      refine Calls.mono (impl_RulesOf a A5 a.length c5 _ _ y _ (by omega) HA.out HUA WY.out) ?_
      rintro e w8 ⟨A7, c7, rfl, hF, hb⟩
      replace HA := Lib.hid (HA.out.new hb)
      replace HD := Lib.hid (HD.out.new hb)
      replace HB := Lib.hid (below_trans HB.out hb (Nat.le_refl _))
      clear hb
      clear hF
      generalize (a.filter fun x => x.f0 == y).length = nf at hsp hle2 ⊢
      have hw2 : IntKind.i64.wrap ((d.length : Int) + (nf : Int)) = (d.length : Int) + (nf : Int) := IntWalk.i64_in _ (by omega)
      have hs2 : (d.length : Int) + (nf : Int) = (a.length : Int) := by omega
      have ge2 : ((d.length : Int) + (nf : Int) == (a.length : Int)) = true := by rw [hs2]; simp
      go_wp2_with fail
      refine Calls.mono (impl_RulesOf d A6 d.length c6 _ _ y _ (by omega) HD.out HUD WY.out) ?_
      rintro e w9 ⟨A8, c8, rfl, hF, hb⟩
      replace HA := Lib.hid (HA.out.new hb)
      replace HD := Lib.hid (HD.out.new hb)
      replace HB := Lib.hid (below_trans HB.out hb (Nat.le_refl _))
      clear hb
      clear hF
      rw [hno]
      go_wp2_with fail
      refine Calls.mono (qroom_eq d A6 d.length c6 _ _ y _ EB _ (by omega) HD.out HUD WY.out) ?_
      rintro e w10 ⟨rfl, hb⟩
      replace HA := Lib.hid (HA.out.new hb)
      replace HD := Lib.hid (HD.out.new hb)
      replace HB := Lib.hid (below_trans HB.out hb (Nat.le_refl _))
      clear hb
      go_wp2_with fail
      refine Calls.mono (qroom_eq a A5 a.length c5 _ _ y _ EA _ (by omega) HA.out HUA WY.out) ?_
      rintro e w11 ⟨rfl, hb⟩
      replace HA := Lib.hid (HA.out.new hb)
      replace HD := Lib.hid (HD.out.new hb)
      replace HB := Lib.hid (below_trans HB.out hb (Nat.le_refl _))
      clear hb
      go_wp2_with fail
      refine Calls.mono (qroom_eq a A5 a.length c5 _ _ y _ EA _ (by omega) HA.out HUA WY.out) ?_
      rintro e w12 ⟨rfl, hb⟩
      replace HA := Lib.hid (HA.out.new hb)
      replace HD := Lib.hid (HD.out.new hb)
      replace HB := Lib.hid (below_trans HB.out hb (Nat.le_refl _))
      clear hb
      go_wp2_with fail
      go_ret
      exact ⟨by first | rfl | simp [g3, g4], HB.out⟩
  · have g : decide ((1048576 : Int) < n0) = true := by simp; omega
    go_enter Try.func7, Try.ntmps7
    go_wp2_with fail
    refine (big_any n0 c0 A0 _ w0).mono ?_
    rintro e w1 ⟨rfl, rfl⟩
    rw [g]
    go_wp2_with fail
    go_ret
    exact ⟨rfl, Below.refl _ _⟩

set_option maxRecDepth 100000 in
theorem lifted (os : Os) (started : os.Started) (H : Type) (enc : TypeId × Value → H) :
    ReturnsInHanded {} Try.checked os 7 .any (Rows.fnQuotasSpec.pre6 enc Try.prog Try.f7 Rows.fnQuotasRow.domain false) (Rows.fnQuotasSpec.post enc Try.prog Try.f7 false true false false) := by
  refine law_lifted Try.func7 (by kernel_rfl) rfl rfl (by kernel_rfl) os started
    (ChangeSpec.witness6 (enc := enc) (C := Try.checked) false ⟨#[], #[.slice none 0 0], []⟩ 8 (by kernel_rfl) (by kernel_rfl) (by kernel_rfl) (by kernel_rfl)) ?_
  intro W base args ds p hval hA hlt
  rw [Try.params7] at hA hval
  obtain ⟨v0, vs0, d0, ds0, p0, q0, hargs, rfl, rfl, h0, r0⟩ := trodAll_cons hA
  obtain ⟨rfl, rfl, rfl⟩ := trodAll_nil r0
  obtain rfl : args = #[v0] := by cases args; simp_all
  obtain ⟨A0, n0, c0, rfl, w0, m0⟩ := open_bytes (hval 0 22 v0 rfl rfl) h0 (fun x hx => hlt x (by simp [hx]))
  exact ⟨⟨rfl, rfl, rfl⟩, walk A0 n0 c0 w0 W m0⟩

theorem over : Rows.fnQuotasRow.holds Try.pinned (OpenSpec.ofChange Rows.fnQuotasSpec) :=
  OpenClaim.holds_of_wide 7 Try.f7 rfl rfl rfl rfl rfl rfl rfl ⟨rfl, rfl, rfl, rfl, rfl⟩ rfl rfl rfl rfl rfl (by kernel_rfl) Try.func7 (by kernel_rfl)
    (of_decide_eq_true (by kernel_rfl)) (by unfold Func.isWrapper; first | (rw [if_pos (by decide +kernel)]; kernel_rfl) | (rw [if_neg (by decide +kernel)]; exact ⟨rfl, rfl⟩))
    (fun os started H enc _ => lifted os started H enc)

theorem proved : Rows.FnQuotasSaid := over
#print axioms proved
end Go.Proofs.Ytlnmgfbfpjfddaa.fnQuotas
