/- NeverChosen of the model. -/
import Derived.Test.YtblmdjdaiilmmaaNcM
import Derived.Test.YtblmdjdaiilmmaaRule
import Derived.Deep.LoopGhost
namespace Go.Proofs.Ytblmdjdaiilmmaa
open Go Go.ChangeShapes Go.WideShapes Go.ChangeAt Go.RowKit Go.Lib
set_option linter.unusedVariables false
set_option linter.unusedSimpArgs false
set_option maxRecDepth 100000
theorem spec_l7Has (l : List Int) (A : Option Addr) (n c lo hi : Nat) (a : Int) (w : World) (hn : n ≤ 1099511627000) (hr : Rd w lo hi 1 A n (i64s l)) :
    Calls Try.prog 88 #[.slice A n c, .int .i64 a] w (Says (.bool (l.any fun z => z == a)) w) := by
  have HL := Lib.hid (show l.length = n by simpa [i64s] using hr.1)
  have HR := Lib.hid hr
  clear hr
  go_enter Try.func88, Try.ntmps88
  go_wp2_with fail
  go_loopg [5] n (fun gg i wr => ∃ k : Nat, k ≤ n ∧ n - k ≤ gg ∧ i = .int .i64 k ∧ w = wr ∧ Hid (((l.take k).any fun z => z == a) = false))
  case atStart => exact ⟨0, Nat.zero_le _, by omega, rfl, rfl, Lib.hid (by simp)⟩
  case round =>
    obtain ⟨k, hk, hg, rfl, rfl, HM⟩ := hrel
    by_cases hlt : k < n
    · obtain ⟨b, off, z, rfl, _, _, hz, hc⟩ := rd_int HR.out hlt
      by_cases hza : z = a
      · have HE := Lib.hid (show (l.any fun z => z == a) = true by
          rw [List.any_eq_true]; exact ⟨z, List.mem_of_getElem? hz, by simpa using hza⟩)
        have hza2 : (z == a) = true := by simpa using hza
        clear hz hza
        go_wp2_with fail
        go_ret
        exact ⟨by rw [HE.out]; rfl, Below.refl _ _⟩
      · have HE := Lib.hid (show ((l.take (k + 1)).any fun z => z == a) = false by
          rw [List.take_add_one, hz, List.any_append, HM.out]; simpa using hza)
        have hza2 : (z == a) = false := by simpa using hza
        clear hz hza
        go_wp2_with fail
        go_roundg (n - (k + 1))
        case rel => exact ⟨k + 1, by omega, by omega, by go_num, rfl, HE⟩
        case measure => omega
    · have HE := Lib.hid (show (l.any fun z => z == a) = false by
        have h := HM.out
        rwa [List.take_of_length_le (by have := HL.out; omega)] at h)
      go_wp2_with fail
      go_ret
      exact ⟨by rw [HE.out]; rfl, Below.refl _ _⟩
/-- Of the first k rules those that are never chosen. -/
def ncTo (l : List TRule) (S : List Int) (k : Nat) : List Int := (rangeI 0 k).filter fun i => (match l[i.toNat]? with | some r => mIsRule r | none => false) && !(S.any fun z => z == i)
theorem ncTo_snoc (l : List TRule) (S : List Int) {k : Nat} {r : TRule} (hr : l[k]? = some r) : ncTo l S (k + 1) = if (mIsRule r && !(S.any fun z => z == (k : Int))) = true then ncTo l S k ++ [(k : Int)] else ncTo l S k := by
  unfold ncTo
  have e : rangeI 0 (k + 1) = rangeI 0 k ++ [(k : Int)] := by
    unfold rangeI; rw [List.range_succ, List.map_append, List.map_cons, List.map_nil, Int.zero_add]
  rw [e, List.filter_append, List.filter_cons, List.filter_nil]
  simp only [Int.toNat_natCast, hr]
  split <;> simp
theorem ncTo_len (l : List TRule) (S : List Int) (k : Nat) : (ncTo l S k).length ≤ k := Nat.le_trans (List.length_filter_le _ _) (Nat.le_of_eq (rangeI_len _ _))
set_option maxHeartbeats 8000000 in
theorem spec_NeverChosen (l : List TRule) (A : Option Addr) (n c lo hi : Nat) (w : World) (hn : n ≤ 1048576) (hr : Rd w lo hi 8 A n (cRule l)) (H : Hid (cRuleOk l)) :
    Calls Try.prog 25 #[.slice A n c] w (Makes 3 1 (mNC l).length (i64s (mNC l)) w) := by
  have HL := Lib.hid (rd_len TRule.len hr (by decide))
  have HR := Lib.hid hr
  have CD := Lib.hid (fun (k : Nat) (W : World) (q : Rd W lo hi 8 A n (cRule l)) => spec_DecideRule l A n c lo hi (nReq k) W hn q H)
  clear hr
  go_enter Try.func25, Try.ntmps25
  go_wp2_with fail
  go_loopg [3, 4] 360 (fun gg v i wr => ∃ (k : Nat) (A' : Option Addr) (m c' : Nat), k ≤ 360 ∧ 360 - k ≤ gg ∧ i = .int .i64 k ∧ v = .slice A' m c' ∧ m ≤ k ∧ Hid (m = (mAsd (nDs l k)).length) ∧ Hid (Fr wr w.heap.size wr.heap.size 3 1 A' m c' (i64s (mAsd (nDs l k)))) ∧ Hid (Below w.heap.size w wr))
  case atStart => exact ⟨0, _, 0, 0, Nat.zero_le _, by omega, rfl, rfl, Nat.le_refl _, Lib.hid rfl, Lib.hid ⟨rfl, fun h => absurd h (by omega)⟩, Lib.hid ((Below.refl _ _).alloc (Nat.le_refl _) _)⟩
  case round =>
    obtain ⟨k, A', m, c', hk, hg, rfl, rfl, hmk, HM, HF, HB⟩ := hrel
    by_cases hlt : k < 360
    · have HS := Lib.hid HB.out.size
      have t1 : Int.tdiv (k : Int) 10 = (k : Int) / 10 := Int.tdiv_eq_ediv_of_nonneg (by omega)
      have t2 : Int.tmod ((k : Int) / 10) 9 = (k : Int) / 10 % 9 := Int.tmod_eq_emod_of_nonneg (by omega)
      have t3 : Int.tmod (k : Int) 10 = (k : Int) % 10 := Int.tmod_eq_emod_of_nonneg (by omega)
      have t4 : Int.tdiv (k : Int) 90 = (k : Int) / 90 := Int.tdiv_eq_ediv_of_nonneg (by omega)
      have w1 : IntKind.i64.wrap ((k : Int) / 10) = (k : Int) / 10 := IntWalk.i64_in _ (by omega)
      have w2 : IntKind.i64.wrap ((k : Int) / 90) = (k : Int) / 90 := IntWalk.i64_in _ (by omega)
      have w3 : IntKind.i64.wrap (1 + (k : Int) / 10 % 9) = 1 + (k : Int) / 10 % 9 := IntWalk.i64_in _ (by omega)
      have w4 : IntKind.i64.wrap (1 + (k : Int) / 90) = 1 + (k : Int) / 90 := IntWalk.i64_in _ (by omega)
      go_wp2_with fail
      refine Calls.mono (CD.out k _ ((HR.out.new HB.out).alloc _)) ?_
      rintro e v1 ⟨rfl, hb1⟩
      have HF1 := Lib.hid ((Fr.new (HF.out.keep fun b _ _ h3 => Below.heap_alloc wr (.cells #[.int .i64 (1 + (k : Int) / 10 % 9), .int .i64 ((k : Int) % 10), .int .i64 (1 + (k : Int) / 90)] 119) b h3) hb1).mono (Nat.le_refl _) (by have h9 := hb1.size; rw [World.size_alloc] at h9; exact Nat.le_of_succ_le h9))
      have HB1 := Lib.hid (below_trans (HB.out.alloc HS.out (.cells #[.int .i64 (1 + (k : Int) / 10 % 9), .int .i64 ((k : Int) % 10), .int .i64 (1 + (k : Int) / 90)] 119)) hb1 (Nat.le_refl _))
      have HS1 := Lib.hid HB1.out.size
      clear hb1 t1 t2 t3 t4 w1 w2 w3 w4
      by_cases hd : 0 ≤ mDecide l (nReq k)
      · have HE := Lib.hid (show mAsd (nDs l (k + 1)) = mPut (mDecide l (nReq k)) (mAsd (nDs l k)) by rw [nDs_yes hd, mAsd_snoc])
        generalize mDecide l (nReq k) = d at hd HE ⊢
        generalize mAsd (nDs l k) = L at HE HM HF1
        have HN := Lib.hid (mPut_len d L)
        go_wp2_with fail
        refine (spec_l6Put L A' m c' _ _ d v1 (by omega) HF1.out.rd HF1.out.cap).mono ?_
        rintro e v2 ⟨A2, c2, rfl, h1, h2⟩
        have HF2 := Lib.hid (show Fr v2 w.heap.size v2.heap.size 3 1 A2 (mPut d L).length c2 (i64s (mAsd (nDs l (k + 1)))) by rw [HE.out]; exact h1.mono HS1.out (Nat.le_refl _))
        have HB2 := Lib.hid (below_trans HB1.out h2 (Nat.le_refl _))
        clear h1 h2
        go_wp2_with fail
        go_roundg (360 - (k + 1))
        case measure => omega
        case rel => exact ⟨k + 1, A2, _, c2, by omega, by omega, by go_num, rfl, by have := HN.out; have := HM.out; omega, Lib.hid (by rw [HE.out]), HF2, HB2⟩
      · have HE := Lib.hid (show nDs l (k + 1) = nDs l k from nDs_no hd)
        generalize mDecide l (nReq k) = d at hd ⊢
        go_wp2_with fail
        go_roundg (360 - (k + 1))
        case measure => omega
        case rel => exact ⟨k + 1, A', m, c', by omega, by omega, by go_num, rfl, by omega, Lib.hid (by rw [HE.out]; exact HM.out), Lib.hid (by rw [HE.out]; exact HF1.out), HB1⟩
    · obtain rfl : k = 360 := by omega
      have HS := Lib.hid HB.out.size
      have HNC := Lib.hid (show mNC l = ncTo l (mAsd (nDs l 360)) n by unfold mNC ncTo; rw [HL.out]; rfl)
      generalize mAsd (nDs l 360) = S at HM HF HNC
      have H7 := Lib.hid (fun (a : Int) (W : World) (q : Rd W w.heap.size wr.heap.size 1 A' m (i64s S)) => spec_l7Has S A' m c' _ _ a W (by omega) q)
      have HFr := Lib.hid HF.out.rd
      clear HF CD HM hlt
      generalize wr = wo at HB HFr H7 HS ⊢
      go_wp2_with fail
      go_loopg [7, 8] n (fun gg v i wr => ∃ (j m2 : Nat), j ≤ n ∧ n - j ≤ gg ∧ i = .int .i64 j ∧ m2 ≤ j ∧ Hid (m2 = (ncTo l S j).length) ∧ Hid (wr.ownsRow wo.heap.size 3 1 v m2 (i64s (ncTo l S j))) ∧ Hid (Below wo.heap.size wo wr))
      case atStart => exact ⟨0, 0, Nat.zero_le _, by omega, rfl, Nat.le_refl _, Lib.hid rfl, Lib.hid (World.ownsRow_lit wo #[] 0 (Nat.le_refl _) (by unfold maxLen; omega) rfl), Lib.hid ((Below.refl _ _).alloc (Nat.le_refl _) _)⟩
      case round =>
        obtain ⟨j, m2, hj, hgj, rfl, hmj, HM2, HO2, HBz⟩ := hrel
        by_cases hlj : j < n
        · have HBw := Lib.hid (HB.out.trans (HBz.out.mono HS.out))
          obtain ⟨b, off, x, rfl, _, _, hz, hc⟩ := rd_elem TRule.len (HR.out.new HBw.out) HL.out hlj
          have c0 : wr.cell? ⟨b, off + j * 8, none⟩ = _ := hc 0 _ rfl
          have c1 := hc 1 _ rfl
          have c2 := hc 2 _ rfl
          have c3 := hc 3 _ rfl
          have c4 := hc 4 _ rfl
          have c5 := hc 5 _ rfl
          have c6 := hc 6 _ rfl
          have c7 := hc 7 _ rfl
          have HSz := Lib.hid HBz.out.size
          have HE := Lib.hid (ncTo_snoc l S hz)
          have HX := Lib.hid (HFr.out.below HBz.out (Nat.le_refl _))
          have CI := Lib.hid (spec_IsRule x wr)
          generalize mIsRule x = q at HE CI
          clear hz hc
          cases q with
          | false =>
            have HE2 := Lib.hid (by have h := HE.out; rwa [if_neg (by simp)] at h)
            clear HE
            go_wp2_with fail
            refine Calls.mono CI.out ?_
            rintro e z1 ⟨rfl, hb1⟩
            have HO3 := Lib.hid (own_newer HO2.out hb1)
            have HB3 := Lib.hid (below_trans HBz.out hb1 (Nat.le_refl _))
            clear hb1
            go_wp2_with fail
            go_roundg (n - (j + 1))
            case measure => omega
            case rel => exact ⟨j + 1, m2, by omega, by omega, by go_num, by omega, Lib.hid (by rw [HE2.out]; exact HM2.out), Lib.hid (by rw [HE2.out]; exact HO3.out), HB3⟩
          | true =>
            go_wp2_with fail
            refine Calls.mono CI.out ?_
            rintro e z1 ⟨rfl, hb1⟩
            have HO3 := Lib.hid (own_newer HO2.out hb1)
            have HB3 := Lib.hid (below_trans HBz.out hb1 (Nat.le_refl _))
            have HX3 := Lib.hid (HX.out.new hb1)
            clear hb1
            go_wp2_with fail
            refine Calls.mono (H7.out (j : Int) z1 HX3.out) ?_
            rintro e z2 ⟨rfl, hb2⟩
            have HO4 := Lib.hid (own_newer HO3.out hb2)
            have HB4 := Lib.hid (below_trans HB3.out hb2 (Nat.le_refl _))
            have HS4 := Lib.hid HB4.out.size
            clear hb2
            generalize (S.any fun z => z == (j : Int)) = y at HE ⊢
            cases y with
            | true =>
              have HE2 := Lib.hid (by have h := HE.out; rwa [if_neg (by simp)] at h)
              clear HE
              go_wp2_with fail
              go_roundg (n - (j + 1))
              case measure => omega
              case rel => exact ⟨j + 1, m2, by omega, by omega, by go_num, by omega, Lib.hid (by rw [HE2.out]; exact HM2.out), Lib.hid (by rw [HE2.out]; exact HO4.out), HB4⟩
            | false =>
              have HE2 := Lib.hid (by have h := HE.out; rwa [if_pos (by simp)] at h)
              clear HE
              go_wp2_with (at_builtin; refine wp_app_lit rfl _ _ _ rfl wo.heap.size 3 (.int .i64 0) 1 8 Try.underlying30 info_int rfl (by decide) _ _ _ rfl HO4.out #[.int .i64 (j : Int)] 1 1 _ rfl (by simp) rfl (one_int _) (by unfold maxLen; omega) (by omega) HS4.out ?_; intro v5 z3 ho5 hb5)
              have HO5 := Lib.hid (show z3.ownsRow wo.heap.size 3 1 v5 (m2 + 1) (i64s (ncTo l S (j + 1))) by rw [HE2.out]; simpa [i64s] using ho5)
              have HB5 := Lib.hid (HB4.out.trans hb5)
              clear ho5 hb5
              go_wp2_with fail
              go_roundg (n - (j + 1))
              case measure => omega
              case rel => exact ⟨j + 1, m2 + 1, by omega, by omega, by go_num, by omega, Lib.hid (by rw [HE2.out]; have := HM2.out; simp; omega), HO5, HB5⟩
        · obtain rfl : j = n := by omega
          obtain ⟨Aq, cq, rfl, hF⟩ := fr_of_own HO2.out
          have HF2 := Lib.hid (show Fr wr w.heap.size wr.heap.size 3 1 Aq (mNC l).length cq (i64s (mNC l)) by
            have h := hF.mono HS.out (Nat.le_refl _)
            rw [HNC.out, ← HM2.out]
            exact h)
          have HBw := Lib.hid (HB.out.trans (HBz.out.mono HS.out))
          have HNl := Lib.hid (show m2 = (mNC l).length by rw [HNC.out]; exact HM2.out)
          clear hF
          go_wp2_with fail
          go_ret
          refine ⟨Aq, cq, ?_, HF2.out, HBw.out⟩
          rw [← HNl.out]; rfl
end Go.Proofs.Ytblmdjdaiilmmaa
