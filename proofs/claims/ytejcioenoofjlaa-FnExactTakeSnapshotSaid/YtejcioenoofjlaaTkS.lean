/- TakeSnapshot, of the program and of the model. -/
import Derived.Test.YtejcioenoofjlaaRSnapshot
import Derived.Test.YtejcioenoofjlaaCpP
import Derived.Test.YtejcioenoofjlaaStB
import Derived.Test.YtejcioenoofjlaaKTkS
import Derived.Test.YtejcioenoofjlaaReg
import Derived.Deep.RegionHeld3
namespace Go.Proofs.Ytejcioenoofjlaa
open Go Go.ChangeShapes Go.WideShapes Go.ChangeAt Go.RowKit Go.Lib
set_option linter.unusedVariables false
set_option linter.unusedSimpArgs false
set_option maxRecDepth 100000
set_option maxHeartbeats 8000000 in
theorem spec_l30Entries (l : List TStored) (A : Option Addr) (n c lo hi : Nat) (a1 : Int) (w : World) (hn : n ≤ 1048576) (hr : Rd w lo hi 4 A n (cStored l)) (H : Hid (cStoredOk l)) :
    Calls Try.prog 101 #[.slice A n c, .int .i64 a1] w (Makes 164 4 (l.filter fun x => x.f0 == a1).length (cStored (l.filter fun x => x.f0 == a1)) w) := by
  have HL := Lib.hid (rd_len TStored.len hr (by decide))
  have HR := Lib.hid hr
  clear hr
  generalize hP : (fun x : TStored => x.f0 == a1) = P
  have HP := Lib.hid hP
  clear hP
  go_enter Try.func101, Try.ntmps101
  go_wp2_with fail
  go_loopg [5, 6] n (fun gg v i wr => ∃ k : Nat, k ≤ n ∧ n - k ≤ gg ∧ i = .int .i64 k ∧ Hid (wr.ownsRow w.heap.size 164 4 v ((l.take k).filter P).length (cStored ((l.take k).filter P))) ∧ Hid (Below w.heap.size w wr))
  case atStart => exact ⟨0, Nat.zero_le _, by omega, rfl, Lib.hid (World.ownsRow_lit w #[] 0 (Nat.le_refl _) (by unfold maxLen; omega) rfl), Lib.hid ((Below.refl _ _).alloc (Nat.le_refl _) _)⟩
  case round =>
    obtain ⟨k, hk, hg, rfl, HO, HB⟩ := hrel
    by_cases hlt : k < n
    · obtain ⟨b, off, x, rfl, _, _, hz, hc⟩ := rd_elem TStored.len (HR.out.new HB.out) HL.out hlt
      have c0 : wr.cell? ⟨b, off + k * 4, none⟩ = _ := hc 0 _ rfl
      have c1 := hc 1 _ rfl
      have c2 := hc 2 _ rfl
      have c3 := hc 3 _ rfl
      have hbl : b < wr.heap.size := World.block_lt_of_cell? _ _ c0
      have HE := Lib.hid (filter_sn P hz)
      have HN := Lib.hid (Nat.le_trans (List.length_filter_le P (l.take k)) (List.length_take_le _ _))
      have HPx := Lib.hid (show (x.f0 == a1) = P x by rw [← HP.out])
      clear hz hc
      by_cases h0 : (x.f0 == a1) = true
      · skip
        have H2 := Lib.hid (by have := HE.out; rwa [if_pos (by rw [← HPx.out]; simp [h0])] at this)
        clear HE HPx
        have HS := Lib.hid HB.out.size
        go_wp2_with (at_builtin; refine wp_app_lit rfl _ _ _ rfl w.heap.size 164 (.agg #[.int .i64 0, .int .i64 0, .int .i64 0, .int .i64 0]) 4 32 Try.underlying58 infoStored rfl (by decide) _ _ _ rfl HO.out #[.int .i64 x.f0, .int .i64 x.f1, .int .i64 x.f2, .int .i64 x.f3] 1 1 _ rfl (by simp) rfl (onesStored x) (by have := HN.out; unfold maxLen; omega) (by have := HN.out; omega) (by have := HS.out; omega) ?_; intro v1 w2 ho1 hb2)
        have HO2 := Lib.hid (show w2.ownsRow w.heap.size 164 4 v1 ((l.take (k + 1)).filter P).length (cStored ((l.take (k + 1)).filter P)) by rw [H2.out]; simpa [cStored, List.flatMap_append, TStored.cells] using ho1)
        have HB2 := Lib.hid (HB.out.trans hb2)
        clear ho1 hb2
        go_wp2_with fail
        go_roundg (n - (k + 1))
        case measure => omega
        case rel => exact ⟨k + 1, by omega, by omega, by go_num, HO2, HB2⟩
      · have h0 : (x.f0 == a1) = false := by simpa using h0
        have H2 := Lib.hid (by have := HE.out; rwa [if_neg (by rw [← HPx.out]; simp [h0])] at this)
        clear HE HPx
        go_wp2_with fail
        have HS := Lib.hid HB.out.size
        go_roundg (n - (k + 1))
        case measure => omega
        case rel => exact ⟨k + 1, by omega, by omega, by go_num, by rw [H2.out]; exact HO, HB⟩
    · obtain rfl : k = n := by omega
      have HO2 := Lib.hid (show wr.ownsRow w.heap.size _ _ _ (l.filter P).length (cStored (l.filter P)) by have := HO.out; rwa [List.take_of_length_le (by rw [HL.out]; omega)] at this)
      clear HO
      go_wp2_with fail
      go_ret
      exact makes_of_own HO2.out HB.out
set_option maxHeartbeats 4000000 in
theorem clo_TkS (a1 : Int) (B : Nat) (l : List TStored) (w : World) (hq0 : w.cell? ⟨B, 0, none⟩ = some (.int .i64 a1)) :
    PredB Try.prog 104 #[.pointer (some ⟨B, 0, none⟩)] (fun x : TStored => .agg #[.int .i64 x.f0, .int .i64 x.f1, .int .i64 x.f2, .int .i64 x.f3]) (fun x => x.f0 == a1) l w := fun W x _ hb => by
  have c0 := cell_nw hb hq0
  have m0 : B < W.heap.size := World.block_lt_of_cell? _ _ c0
  have n0 : B ≠ W.heap.size := Nat.ne_of_lt m0
  clear hb hq0
  change Calls Try.prog _ #[.agg #[.int .i64 x.f0, .int .i64 x.f1, .int .i64 x.f2, .int .i64 x.f3], .pointer (some ⟨B, 0, none⟩)] _ (Says (.bool (x.f0 == a1)) W)
  have HE := Lib.hid (show (x.f0 == a1) = (x.f0 == a1) by simp [])
  go_enter Try.func104, Try.ntmps104
  go_wp2_with fail
  go_ret
  exact ⟨by first | rfl | (rw [HE.out]; rfl), by repeat (first | with_reducible exact Below.refl _ _ | (with_reducible refine below_step ?_ (by assumption) (by first | omega | (simp; done) | (simp <;> omega))) | (with_reducible refine Below.alloc ?_ (by first | omega | (simp; done) | (simp <;> omega)) _) | (with_reducible refine Below.setCell ?_ (by first | omega | (simp; done) | (simp <;> omega)) _) | (with_reducible refine Below.drew ?_) | (with_reducible refine below_dN ?_ _) | (refine Below.alloc ?_ (by first | omega | (simp; done) | (simp <;> omega)) _))⟩
set_option maxHeartbeats 8000000 in
theorem impl_TakeSnapshot0 (p0 p1 p2 : Int) (l3 : List TGrant) (A3 : Option Addr) (n3 c3 lo3 hi3 : Nat) (l4 : List TFlow) (A4 : Option Addr) (n4 c4 lo4 hi4 : Nat) (l5 : List TRule) (A5 : Option Addr) (n5 c5 lo5 hi5 : Nat) (l6 : List TOp) (A6 : Option Addr) (n6 c6 lo6 hi6 : Nat) (p7 : Int) (l8 : List TStored) (A8 : Option Addr) (n8 c8 lo8 hi8 : Nat) (w : World) (h3 : n3 ≤ 1048576) (r3 : Rd w lo3 hi3 7 A3 n3 (cGrant l3)) (b3 : Hid (cGrantOk l3)) (h4 : n4 ≤ 1048576) (r4 : Rd w lo4 hi4 3 A4 n4 (cFlow l4)) (b4 : Hid (cFlowOk l4)) (h5 : n5 ≤ 1048576) (r5 : Rd w lo5 hi5 8 A5 n5 (cRule l5)) (b5 : Hid (cRuleOk l5)) (h6 : n6 ≤ 1048576) (r6 : Rd w lo6 hi6 4 A6 n6 (cOp l6)) (b6 : Hid (cOpOk l6)) (h8 : n8 ≤ 1048576) (r8 : Rd w lo8 hi8 4 A8 n8 (cStored l8)) (b8 : Hid (cStoredOk l8)) :
    Calls Try.prog 39 #[.agg #[.int .i64 p0, .int .i64 p1, .int .i64 p2, .slice A3 n3 c3, .slice A4 n4 c4, .slice A5 n5 c5, .slice A6 n6 c6, .int .i64 p7], .slice A8 n8 c8] w (MakesSnapshot p0 p1 p2 l3.length l3 l4.length l4 l5.length l5 l6.length l6 p7 (l8.filter fun x => x.f0 == p0).length (l8.filter fun x => x.f0 == p0) w) := by
  have HL3 := rd_len TGrant.len r3 (by decide)
  have HL4 := rd_len TFlow.len r4 (by decide)
  have HL5 := rd_len TRule.len r5 (by decide)
  have HL6 := rd_len TOp.len r6 (by decide)
  rw [HL3, HL4, HL5, HL6]
  have R3 := Lib.hid (r3.old (by decide))
  have R4 := Lib.hid (r4.old (by decide))
  have R5 := Lib.hid (r5.old (by decide))
  have R6 := Lib.hid (r6.old (by decide))
  have R8 := Lib.hid (r8.old (by decide))
  have hmf : ∀ (fn : Fn) (first cap : Array Value) (w : World), (Instr.makeFunc fn first cap).run Try.prog w = .ok (.func fn first cap) w := fun _ _ _ _ => rfl
  have KB : Hid (BoxAt (((w.alloc (.cells #[.int .i64 p0, .int .i64 p1, .int .i64 p2, .slice A3 n3 c3, .slice A4 n4 c4, .slice A5 n5 c5, .slice A6 n6 c6, .int .i64 p7] 46)).alloc (.cells #[.int .i64 0, .int .i64 0, .int .i64 0, .slice none 0 0, .slice none 0 0, .slice none 0 0, .slice none 0 0, .int .i64 0, .slice none 0 0] 60)).alloc (.cells #[.func (.func 104) #[] (#[.pointer (some ⟨w.heap.size, 0, none⟩)])] 168)) w.heap.size 46 #[.int .i64 p0, .int .i64 p1, .int .i64 p2, .slice A3 n3 c3, .slice A4 n4 c4, .slice A5 n5 c5, .slice A6 n6 c6, .int .i64 p7]) := Lib.hid (((box_new w _ _).alloc_ _).alloc_ _)
  have KR : Hid (BoxAt (((w.alloc (.cells #[.int .i64 p0, .int .i64 p1, .int .i64 p2, .slice A3 n3 c3, .slice A4 n4 c4, .slice A5 n5 c5, .slice A6 n6 c6, .int .i64 p7] 46)).alloc (.cells #[.int .i64 0, .int .i64 0, .int .i64 0, .slice none 0 0, .slice none 0 0, .slice none 0 0, .slice none 0 0, .int .i64 0, .slice none 0 0] 60)).alloc (.cells #[.func (.func 104) #[] (#[.pointer (some ⟨w.heap.size, 0, none⟩)])] 168)) (w.heap.size + 1) 60 #[.int .i64 0, .int .i64 0, .int .i64 0, .slice none 0 0, .slice none 0 0, .slice none 0 0, .slice none 0 0, .int .i64 0, .slice none 0 0]) := Lib.hid (BoxAt.alloc_ (by simpa using box_new (w.alloc (.cells #[.int .i64 p0, .int .i64 p1, .int .i64 p2, .slice A3 n3 c3, .slice A4 n4 c4, .slice A5 n5 c5, .slice A6 n6 c6, .int .i64 p7] 46)) 60 #[.int .i64 0, .int .i64 0, .int .i64 0, .slice none 0 0, .slice none 0 0, .slice none 0 0, .slice none 0 0, .int .i64 0, .slice none 0 0]) _)
  have KF0 : BoxAt (((w.alloc (.cells #[.int .i64 p0, .int .i64 p1, .int .i64 p2, .slice A3 n3 c3, .slice A4 n4 c4, .slice A5 n5 c5, .slice A6 n6 c6, .int .i64 p7] 46)).alloc (.cells #[.int .i64 0, .int .i64 0, .int .i64 0, .slice none 0 0, .slice none 0 0, .slice none 0 0, .slice none 0 0, .int .i64 0, .slice none 0 0] 60)).alloc (.cells #[.func (.func 104) #[] (#[.pointer (some ⟨w.heap.size, 0, none⟩)])] 168)) (w.heap.size + 1 + 1) 168 #[.func (.func 104) #[] (#[.pointer (some ⟨w.heap.size, 0, none⟩)])] := by simpa using box_new ((w.alloc (.cells #[.int .i64 p0, .int .i64 p1, .int .i64 p2, .slice A3 n3 c3, .slice A4 n4 c4, .slice A5 n5 c5, .slice A6 n6 c6, .int .i64 p7] 46)).alloc (.cells #[.int .i64 0, .int .i64 0, .int .i64 0, .slice none 0 0, .slice none 0 0, .slice none 0 0, .slice none 0 0, .int .i64 0, .slice none 0 0] 60)) 168 #[.func (.func 104) #[] (#[.pointer (some ⟨w.heap.size, 0, none⟩)])]
  have HC := Lib.hid (kTkS.keep (fun x => x.f0 == p0) (#[.pointer (some ⟨w.heap.size, 0, none⟩)]) l8 A8 n8 c8 lo8 hi8 (w.heap.size + 1 + 1) (((w.alloc (.cells #[.int .i64 p0, .int .i64 p1, .int .i64 p2, .slice A3 n3 c3, .slice A4 n4 c4, .slice A5 n5 c5, .slice A6 n6 c6, .int .i64 p7] 46)).alloc (.cells #[.int .i64 0, .int .i64 0, .int .i64 0, .slice none 0 0, .slice none 0 0, .slice none 0 0, .slice none 0 0, .int .i64 0, .slice none 0 0] 60)).alloc (.cells #[.func (.func 104) #[] (#[.pointer (some ⟨w.heap.size, 0, none⟩)])] 168)) h8 (((r8.alloc _).alloc _).alloc _) KF0 (clo_TkS p0 w.heap.size l8 (((w.alloc (.cells #[.int .i64 p0, .int .i64 p1, .int .i64 p2, .slice A3 n3 c3, .slice A4 n4 c4, .slice A5 n5 c5, .slice A6 n6 c6, .int .i64 p7] 46)).alloc (.cells #[.int .i64 0, .int .i64 0, .int .i64 0, .slice none 0 0, .slice none 0 0, .slice none 0 0, .slice none 0 0, .int .i64 0, .slice none 0 0] 60)).alloc (.cells #[.func (.func 104) #[] (#[.pointer (some ⟨w.heap.size, 0, none⟩)])] 168)) (KB.out.at_ (j := 0) rfl)))
  have HB := Lib.hid (show Below w.heap.size w (((w.alloc (.cells #[.int .i64 p0, .int .i64 p1, .int .i64 p2, .slice A3 n3 c3, .slice A4 n4 c4, .slice A5 n5 c5, .slice A6 n6 c6, .int .i64 p7] 46)).alloc (.cells #[.int .i64 0, .int .i64 0, .int .i64 0, .slice none 0 0, .slice none 0 0, .slice none 0 0, .slice none 0 0, .int .i64 0, .slice none 0 0] 60)).alloc (.cells #[.func (.func 104) #[] (#[.pointer (some ⟨w.heap.size, 0, none⟩)])] 168)) from by repeat (first | with_reducible exact Below.refl _ _ | (with_reducible exact HB.out) | (with_reducible refine Below.setCell ?_ (by first | omega | (simp; done) | (simp <;> omega)) _) | (with_reducible refine Below.alloc ?_ (by first | omega | (simp; done) | (simp <;> omega)) _) | (refine Below.alloc ?_ (by first | omega | (simp; done) | (simp <;> omega)) _) | (refine Below.setCell ?_ (by first | omega | (simp; done) | (simp <;> omega)) _)))
  clear r3 r4 r5 r6 r8 KF0
  generalize (l8.filter fun x => x.f0 == p0) = r at HC ⊢
  go_enter Try.func39, Try.ntmps39
  go_wp2_with fail
  refine HC.out.mono ?_
  rintro e w1 ⟨v, rfl, ho1, hb⟩
  have HM := own_base (base' := w.heap.size + 2) ho1 (by simp <;> omega)
  obtain ⟨B8, d8, hv, F8⟩ := fr_of_own HM
  subst hv
  replace F8 := Lib.hid F8
  replace KB := Lib.hid (KB.out.new hb)
  replace KR := Lib.hid (KR.out.new hb)
  have hs1 := hb.size
  (try simp at hs1)
  replace HB := Lib.hid (below_trans HB.out hb (by simp <;> omega))
  clear hb HC ho1 HM
  have k0 := KB.out.at_ (j := 0) rfl
  have k1 := KB.out.at_ (j := 1) rfl
  have k2 := KB.out.at_ (j := 2) rfl
  have k3 := KB.out.at_ (j := 3) rfl
  have k4 := KB.out.at_ (j := 4) rfl
  have k5 := KB.out.at_ (j := 5) rfl
  have k6 := KB.out.at_ (j := 6) rfl
  have k7 := KB.out.at_ (j := 7) rfl
  go_wp2_with fail
  clear k0 k1 k2 k3 k4 k5 k6 k7
  refine (impl_copyPackage p0 p1 p2 l3 A3 n3 c3 0 w.heap.size l4 A4 n4 c4 0 w.heap.size l5 A5 n5 c5 0 w.heap.size l6 A6 n6 c6 0 w.heap.size p7 _ h3 (R3.out.below HB.out (Nat.le_refl _)) h4 (R4.out.below HB.out (Nat.le_refl _)) h5 (R5.out.below HB.out (Nat.le_refl _)) h6 (R6.out.below HB.out (Nat.le_refl _))).mono ?_
  rintro e w2 ⟨B3, B4, B5, B6, d3, g3, i3, d4, g4, i4, d5, g5, i5, d6, g6, i6, rfl, G3, G4, G5, G6, MS, hb⟩
  replace F8 := Lib.hid (F8.out.new hb)
  replace KR := Lib.hid (KR.out.new hb)
  have hs2 := hb.size
  replace HB := Lib.hid (below_trans HB.out hb (by omega))
  clear hb KB
  replace G3 := Lib.hid G3
  replace G4 := Lib.hid G4
  replace G5 := Lib.hid G5
  replace G6 := Lib.hid G6
  have MB := Lib.hid (SepPackage_bd MS.out)
  have q0 := KR.out.at_ (j := 0) rfl
  have q1 := KR.out.at_ (j := 1) rfl
  have q2 := KR.out.at_ (j := 2) rfl
  have q3 := KR.out.at_ (j := 3) rfl
  have q4 := KR.out.at_ (j := 4) rfl
  have q5 := KR.out.at_ (j := 5) rfl
  have q6 := KR.out.at_ (j := 6) rfl
  have q7 := KR.out.at_ (j := 7) rfl
  have q8 := KR.out.at_ (j := 8) rfl
  have qf := fun j => KR.out.free j
  have Z0 := KR.out
  replace Z0 := (show BoxAt _ (w.heap.size + 1) 60 #[.int .i64 p0, .int .i64 0, .int .i64 0, .slice none 0 0, .slice none 0 0, .slice none 0 0, .slice none 0 0, .int .i64 0, .slice none 0 0] from pk_put Z0 0 (.int .i64 p0))
  replace Z0 := (show BoxAt _ (w.heap.size + 1) 60 #[.int .i64 p0, .int .i64 p1, .int .i64 0, .slice none 0 0, .slice none 0 0, .slice none 0 0, .slice none 0 0, .int .i64 0, .slice none 0 0] from pk_put Z0 1 (.int .i64 p1))
  replace Z0 := (show BoxAt _ (w.heap.size + 1) 60 #[.int .i64 p0, .int .i64 p1, .int .i64 p2, .slice none 0 0, .slice none 0 0, .slice none 0 0, .slice none 0 0, .int .i64 0, .slice none 0 0] from pk_put Z0 2 (.int .i64 p2))
  replace Z0 := (show BoxAt _ (w.heap.size + 1) 60 #[.int .i64 p0, .int .i64 p1, .int .i64 p2, .slice B3 n3 d3, .slice none 0 0, .slice none 0 0, .slice none 0 0, .int .i64 0, .slice none 0 0] from pk_put Z0 3 (.slice B3 n3 d3))
  replace Z0 := (show BoxAt _ (w.heap.size + 1) 60 #[.int .i64 p0, .int .i64 p1, .int .i64 p2, .slice B3 n3 d3, .slice B4 n4 d4, .slice none 0 0, .slice none 0 0, .int .i64 0, .slice none 0 0] from pk_put Z0 4 (.slice B4 n4 d4))
  replace Z0 := (show BoxAt _ (w.heap.size + 1) 60 #[.int .i64 p0, .int .i64 p1, .int .i64 p2, .slice B3 n3 d3, .slice B4 n4 d4, .slice B5 n5 d5, .slice none 0 0, .int .i64 0, .slice none 0 0] from pk_put Z0 5 (.slice B5 n5 d5))
  replace Z0 := (show BoxAt _ (w.heap.size + 1) 60 #[.int .i64 p0, .int .i64 p1, .int .i64 p2, .slice B3 n3 d3, .slice B4 n4 d4, .slice B5 n5 d5, .slice B6 n6 d6, .int .i64 0, .slice none 0 0] from pk_put Z0 6 (.slice B6 n6 d6))
  replace Z0 := (show BoxAt _ (w.heap.size + 1) 60 #[.int .i64 p0, .int .i64 p1, .int .i64 p2, .slice B3 n3 d3, .slice B4 n4 d4, .slice B5 n5 d5, .slice B6 n6 d6, .int .i64 p7, .slice none 0 0] from pk_put Z0 7 (.int .i64 p7))
  replace Z0 := (show BoxAt _ (w.heap.size + 1) 60 #[.int .i64 p0, .int .i64 p1, .int .i64 p2, .slice B3 n3 d3, .slice B4 n4 d4, .slice B5 n5 d5, .slice B6 n6 d6, .int .i64 p7, .slice B8 r.length d8] from pk_put Z0 8 (.slice B8 r.length d8))
  go_wp2_with fail
  have KF := Z0
  have f0 := KF.at_ (j := 0) rfl
  have f1 := KF.at_ (j := 1) rfl
  have f2 := KF.at_ (j := 2) rfl
  have f3 := KF.at_ (j := 3) rfl
  have f4 := KF.at_ (j := 4) rfl
  have f5 := KF.at_ (j := 5) rfl
  have f6 := KF.at_ (j := 6) rfl
  have f7 := KF.at_ (j := 7) rfl
  have f8 := KF.at_ (j := 8) rfl
  exact bodyPost_ret (v := .agg #[.int .i64 p0, .int .i64 p1, .int .i64 p2, .slice B3 n3 d3, .slice B4 n4 d4, .slice B5 n5 d5, .slice B6 n6 d6, .int .i64 p7, .slice B8 r.length d8]) (by simp [results, Try.results39, go_sem, f0, f1, f2, f3, f4, f5, f6, f7, f8]) rfl
    ⟨B3, B4, B5, B6, B8, d3, g3, i3, d4, g4, i4, d5, g5, i5, d6, g6, i6, d8, w.heap.size + 2, w1.heap.size, rfl, (by repeat (first | with_reducible exact G3.out | (with_reducible refine Fr.put ?_ (by have h := MB.out; first | omega | (simp; done) | (simp <;> omega)) _) | (with_reducible refine Fr.alloc ?_ _))), (by repeat (first | with_reducible exact G4.out | (with_reducible refine Fr.put ?_ (by have h := MB.out; first | omega | (simp; done) | (simp <;> omega)) _) | (with_reducible refine Fr.alloc ?_ _))), (by repeat (first | with_reducible exact G5.out | (with_reducible refine Fr.put ?_ (by have h := MB.out; first | omega | (simp; done) | (simp <;> omega)) _) | (with_reducible refine Fr.alloc ?_ _))), (by repeat (first | with_reducible exact G6.out | (with_reducible refine Fr.put ?_ (by have h := MB.out; first | omega | (simp; done) | (simp <;> omega)) _) | (with_reducible refine Fr.alloc ?_ _))), (by repeat (first | with_reducible exact F8.out | (with_reducible refine Fr.put ?_ (by have h := MB.out; first | omega | (simp; done) | (simp <;> omega)) _) | (with_reducible refine Fr.alloc ?_ _))),
      Lib.hid ⟨w1.heap.size, w2.heap.size, by omega, by omega, by simp <;> omega, MS.out, by omega, by omega, by simp <;> omega, .inr (Nat.le_refl _)⟩, by repeat (first | with_reducible exact Below.refl _ _ | (with_reducible exact HB.out) | (with_reducible refine Below.setCell ?_ (by first | omega | (simp; done) | (simp <;> omega)) _) | (with_reducible refine Below.alloc ?_ (by first | omega | (simp; done) | (simp <;> omega)) _) | (refine Below.alloc ?_ (by first | omega | (simp; done) | (simp <;> omega)) _) | (refine Below.setCell ?_ (by first | omega | (simp; done) | (simp <;> omega)) _))⟩
set_option maxHeartbeats 8000000 in
theorem spec_TakeSnapshot0 (p0 p1 p2 : Int) (l3 : List TGrant) (A3 : Option Addr) (n3 c3 lo3 hi3 : Nat) (l4 : List TFlow) (A4 : Option Addr) (n4 c4 lo4 hi4 : Nat) (l5 : List TRule) (A5 : Option Addr) (n5 c5 lo5 hi5 : Nat) (l6 : List TOp) (A6 : Option Addr) (n6 c6 lo6 hi6 : Nat) (p7 : Int) (l8 : List TStored) (A8 : Option Addr) (n8 c8 lo8 hi8 : Nat) (w : World) (h3 : n3 ≤ 1048576) (r3 : Rd w lo3 hi3 7 A3 n3 (cGrant l3)) (b3 : Hid (cGrantOk l3)) (h4 : n4 ≤ 1048576) (r4 : Rd w lo4 hi4 3 A4 n4 (cFlow l4)) (b4 : Hid (cFlowOk l4)) (h5 : n5 ≤ 1048576) (r5 : Rd w lo5 hi5 8 A5 n5 (cRule l5)) (b5 : Hid (cRuleOk l5)) (h6 : n6 ≤ 1048576) (r6 : Rd w lo6 hi6 4 A6 n6 (cOp l6)) (b6 : Hid (cOpOk l6)) (h8 : n8 ≤ 1048576) (r8 : Rd w lo8 hi8 4 A8 n8 (cStored l8)) (b8 : Hid (cStoredOk l8)) :
    Calls Try.prog 37 #[.agg #[.int .i64 p0, .int .i64 p1, .int .i64 p2, .slice A3 n3 c3, .slice A4 n4 c4, .slice A5 n5 c5, .slice A6 n6 c6, .int .i64 p7], .slice A8 n8 c8] w (MakesSnapshot p0 p1 p2 l3.length l3 l4.length l4 l5.length l5 l6.length l6 p7 (l8.filter fun x => x.f0 == p0).length (l8.filter fun x => x.f0 == p0) w) := by
  have HL3 := rd_len TGrant.len r3 (by decide)
  have HL4 := rd_len TFlow.len r4 (by decide)
  have HL5 := rd_len TRule.len r5 (by decide)
  have HL6 := rd_len TOp.len r6 (by decide)
  rw [HL3, HL4, HL5, HL6]
  have R3 := Lib.hid (r3.old (by decide))
  have R4 := Lib.hid (r4.old (by decide))
  have R5 := Lib.hid (r5.old (by decide))
  have R6 := Lib.hid (r6.old (by decide))
  have R8 := Lib.hid (r8.old (by decide))
  have KB : Hid (BoxAt ((w.alloc (.cells #[.int .i64 p0, .int .i64 p1, .int .i64 p2, .slice A3 n3 c3, .slice A4 n4 c4, .slice A5 n5 c5, .slice A6 n6 c6, .int .i64 p7] 46)).alloc (.cells #[.int .i64 0, .int .i64 0, .int .i64 0, .slice none 0 0, .slice none 0 0, .slice none 0 0, .slice none 0 0, .int .i64 0, .slice none 0 0] 60)) w.heap.size 46 #[.int .i64 p0, .int .i64 p1, .int .i64 p2, .slice A3 n3 c3, .slice A4 n4 c4, .slice A5 n5 c5, .slice A6 n6 c6, .int .i64 p7]) := Lib.hid ((box_new w _ _).alloc_ _)
  have KR : Hid (BoxAt ((w.alloc (.cells #[.int .i64 p0, .int .i64 p1, .int .i64 p2, .slice A3 n3 c3, .slice A4 n4 c4, .slice A5 n5 c5, .slice A6 n6 c6, .int .i64 p7] 46)).alloc (.cells #[.int .i64 0, .int .i64 0, .int .i64 0, .slice none 0 0, .slice none 0 0, .slice none 0 0, .slice none 0 0, .int .i64 0, .slice none 0 0] 60)) (w.heap.size + 1) 60 #[.int .i64 0, .int .i64 0, .int .i64 0, .slice none 0 0, .slice none 0 0, .slice none 0 0, .slice none 0 0, .int .i64 0, .slice none 0 0]) := Lib.hid (by simpa using box_new (w.alloc (.cells #[.int .i64 p0, .int .i64 p1, .int .i64 p2, .slice A3 n3 c3, .slice A4 n4 c4, .slice A5 n5 c5, .slice A6 n6 c6, .int .i64 p7] 46)) 60 #[.int .i64 0, .int .i64 0, .int .i64 0, .slice none 0 0, .slice none 0 0, .slice none 0 0, .slice none 0 0, .int .i64 0, .slice none 0 0])
  have HB := Lib.hid (show Below w.heap.size w ((w.alloc (.cells #[.int .i64 p0, .int .i64 p1, .int .i64 p2, .slice A3 n3 c3, .slice A4 n4 c4, .slice A5 n5 c5, .slice A6 n6 c6, .int .i64 p7] 46)).alloc (.cells #[.int .i64 0, .int .i64 0, .int .i64 0, .slice none 0 0, .slice none 0 0, .slice none 0 0, .slice none 0 0, .int .i64 0, .slice none 0 0] 60)) from by repeat (first | with_reducible exact Below.refl _ _ | (with_reducible exact HB.out) | (with_reducible refine Below.setCell ?_ (by first | omega | (simp; done) | (simp <;> omega)) _) | (with_reducible refine Below.alloc ?_ (by first | omega | (simp; done) | (simp <;> omega)) _) | (refine Below.alloc ?_ (by first | omega | (simp; done) | (simp <;> omega)) _) | (refine Below.setCell ?_ (by first | omega | (simp; done) | (simp <;> omega)) _)))
  have CP := Lib.hid (fun (W : World) (h : Below w.heap.size w W) => spec_l26Copy p0 p1 p2 l3 A3 n3 c3 0 w.heap.size l4 A4 n4 c4 0 w.heap.size l5 A5 n5 c5 0 w.heap.size l6 A6 n6 c6 0 w.heap.size p7 W h3 (R3.out.below h (Nat.le_refl _)) h4 (R4.out.below h (Nat.le_refl _)) h5 (R5.out.below h (Nat.le_refl _)) h6 (R6.out.below h (Nat.le_refl _)))
  have CE := Lib.hid (fun (W : World) (h : Below w.heap.size w W) => spec_l30Entries l8 A8 n8 c8 _ _ p0 W h8 (R8.out.below h (Nat.le_refl _)) b8)
  clear r3 r4 r5 r6 r8
  generalize (l8.filter fun x => x.f0 == p0) = r at CE ⊢
  go_enter Try.func37, Try.ntmps37
  go_wp2_with fail
  have GO := KR.out.drw
  have hx0 : w.heap.size + 2 ≤ (World.drew ((w.alloc (.cells #[.int .i64 p0, .int .i64 p1, .int .i64 p2, .slice A3 n3 c3, .slice A4 n4 c4, .slice A5 n5 c5, .slice A6 n6 c6, .int .i64 p7] 46)).alloc (.cells #[.int .i64 0, .int .i64 0, .int .i64 0, .slice none 0 0, .slice none 0 0, .slice none 0 0, .slice none 0 0, .int .i64 0, .slice none 0 0] 60))).heap.size := by simp
  refine wp_region_held_drew (S := fun w' => BoxAt w' w.heap.size 46 #[.int .i64 p0, .int .i64 p1, .int .i64 p2, .slice A3 n3 c3, .slice A4 n4 c4, .slice A5 n5 c5, .slice A6 n6 c6, .int .i64 p7] ∧ Below w.heap.size w w') (by kernel_rfl) ?_ (fun hHeld => ?_)
  · exact ⟨KB.out.drw, HB.out.drew⟩
  generalize World.drew ((w.alloc (.cells #[.int .i64 p0, .int .i64 p1, .int .i64 p2, .slice A3 n3 c3, .slice A4 n4 c4, .slice A5 n5 c5, .slice A6 n6 c6, .int .i64 p7] 46)).alloc (.cells #[.int .i64 0, .int .i64 0, .int .i64 0, .slice none 0 0, .slice none 0 0, .slice none 0 0, .slice none 0 0, .int .i64 0, .slice none 0 0] 60)) = x0 at hHeld GO hx0 ⊢
  refine wpAnyH_take (i := 0) (oi := ⟨some 5, _, _, _, _, _⟩) (v := ?_) rfl (by kernel_rfl) (by kernel_rfl) (by kernel_rfl) (fun _ _ _ h => h) (Or.inl ⟨by kernel_rfl, ?_⟩) hHeld ?_
  rotate_left
  focus (intro W hS; have c0_0 := (hS.1).at_ (j := 0) rfl; have c0_1 := (hS.1).at_ (j := 1) rfl; have c0_2 := (hS.1).at_ (j := 2) rfl; have c0_3 := (hS.1).at_ (j := 3) rfl; have c0_4 := (hS.1).at_ (j := 4) rfl; have c0_5 := (hS.1).at_ (j := 5) rfl; have c0_6 := (hS.1).at_ (j := 6) rfl; have c0_7 := (hS.1).at_ (j := 7) rfl; clear hS; first | (go_simp; done) | (go_simp; with_reducible rfl))
  try simp only [Act.put, List.setIfInBounds_toArray, List.set_cons_zero, List.set_cons_succ]
  refine wpAnyH_take (i := 2) (oi := ⟨some 7, _, _, _, _, _⟩) (v := ?_) rfl (by kernel_rfl) (by kernel_rfl) (by kernel_rfl) (fun _ _ _ h => h) (Or.inl ⟨by kernel_rfl, ?_⟩) hHeld ?_
  rotate_left
  focus (intro W hS; have c0_0 := (hS.1).at_ (j := 0) rfl; have c0_1 := (hS.1).at_ (j := 1) rfl; have c0_2 := (hS.1).at_ (j := 2) rfl; have c0_3 := (hS.1).at_ (j := 3) rfl; have c0_4 := (hS.1).at_ (j := 4) rfl; have c0_5 := (hS.1).at_ (j := 5) rfl; have c0_6 := (hS.1).at_ (j := 6) rfl; have c0_7 := (hS.1).at_ (j := 7) rfl; clear hS; first | (go_simp; done) | (go_simp; with_reducible rfl))
  try simp only [Act.put, List.setIfInBounds_toArray, List.set_cons_zero, List.set_cons_succ]
  refine wpAnyH_take (i := 3) (oi := ⟨some 8, _, _, _, _, _⟩) (v := ?_) rfl (by kernel_rfl) (by kernel_rfl) (by kernel_rfl) (fun _ _ _ h => h) (Or.inl ⟨by kernel_rfl, ?_⟩) hHeld ?_
  rotate_left
  focus (intro W hS; have c0_0 := (hS.1).at_ (j := 0) rfl; have c0_1 := (hS.1).at_ (j := 1) rfl; have c0_2 := (hS.1).at_ (j := 2) rfl; have c0_3 := (hS.1).at_ (j := 3) rfl; have c0_4 := (hS.1).at_ (j := 4) rfl; have c0_5 := (hS.1).at_ (j := 5) rfl; have c0_6 := (hS.1).at_ (j := 6) rfl; have c0_7 := (hS.1).at_ (j := 7) rfl; clear hS; first | (go_simp; done) | (go_simp; with_reducible rfl))
  try simp only [Act.put, List.setIfInBounds_toArray, List.set_cons_zero, List.set_cons_succ]
  refine wpAnyH_take (i := 4) (oi := ⟨some 9, _, _, _, _, _⟩) (v := ?_) rfl (by kernel_rfl) (by kernel_rfl) (by kernel_rfl) (fun _ _ _ h => h) (Or.inl ⟨by kernel_rfl, ?_⟩) hHeld ?_
  rotate_left
  focus (intro W hS; have c0_0 := (hS.1).at_ (j := 0) rfl; have c0_1 := (hS.1).at_ (j := 1) rfl; have c0_2 := (hS.1).at_ (j := 2) rfl; have c0_3 := (hS.1).at_ (j := 3) rfl; have c0_4 := (hS.1).at_ (j := 4) rfl; have c0_5 := (hS.1).at_ (j := 5) rfl; have c0_6 := (hS.1).at_ (j := 6) rfl; have c0_7 := (hS.1).at_ (j := 7) rfl; clear hS; first | (go_simp; done) | (go_simp; with_reducible rfl))
  try simp only [Act.put, List.setIfInBounds_toArray, List.set_cons_zero, List.set_cons_succ]
  refine wpAnyH_ready (rs := [1]) (by kernel_rfl) (by simp) ?_
  refine AllReadyH.cons (o := ⟨some 6, _, _, _, _, _⟩) rfl (fun K hK => ?_) AllReadyH.nil
  go_simp
  refine Calls.mono (CP.out _ hHeld.2) ?_
  rintro e x1 ⟨B3, B4, B5, B6, d3, g3, i3, d4, g4, i4, d5, g5, i5, d6, g6, i6, rfl, G3, G4, G5, G6, MS, hb1⟩
  replace GO := GO.new hb1
  refine hK.out _ _ ⟨hHeld.1.new hb1, below_trans hHeld.2 hb1 (Nat.le_refl _)⟩ (fun hHeld' => ?_)
  have Z1 := hb1.size
  clear hK K hHeld hb1
  have hHeld := hHeld'
  clear hHeld'
  try simp only [Act.put, List.setIfInBounds_toArray, List.set_cons_zero, List.set_cons_succ]
  refine wpAnyH_ready (rs := [5]) (by kernel_rfl) (by simp) ?_
  refine AllReadyH.cons (o := ⟨some 10, _, _, _, _, _⟩) rfl (fun K hK => ?_) AllReadyH.nil
  go_simp
  refine Calls.mono (CE.out _ hHeld.2) ?_
  rintro e x2 ⟨B8, d8, rfl, G8, hb1⟩
  replace GO := GO.new hb1
  replace G3 := G3.new hb1
  replace G4 := G4.new hb1
  replace G5 := G5.new hb1
  replace G6 := G6.new hb1
  refine hK.out _ _ ⟨hHeld.1.new hb1, below_trans hHeld.2 hb1 (Nat.le_refl _)⟩ (fun hHeld' => ?_)
  have Z2 := hb1.size
  clear hK K hHeld hb1
  have hHeld := hHeld'
  clear hHeld'
  try simp only [Act.put, List.setIfInBounds_toArray, List.set_cons_zero, List.set_cons_succ]
  refine wpAnyH_take (i := 6) (oi := ⟨some 11, _, _, _, _, _⟩) (v := ?_) rfl (by kernel_rfl) (by kernel_rfl) (by kernel_rfl) (fun _ _ _ h => h) (Or.inl ⟨by kernel_rfl, ?_⟩) hHeld ?_
  rotate_left
  focus (intro W hS; have c0_0 := (hS.1).at_ (j := 0) rfl; have c0_1 := (hS.1).at_ (j := 1) rfl; have c0_2 := (hS.1).at_ (j := 2) rfl; have c0_3 := (hS.1).at_ (j := 3) rfl; have c0_4 := (hS.1).at_ (j := 4) rfl; have c0_5 := (hS.1).at_ (j := 5) rfl; have c0_6 := (hS.1).at_ (j := 6) rfl; have c0_7 := (hS.1).at_ (j := 7) rfl; clear hS; first | (go_simp; done) | (go_simp; with_reducible rfl))
  try simp only [Act.put, List.setIfInBounds_toArray, List.set_cons_zero, List.set_cons_succ]
  refine wpAnyH_ready (rs := [7]) (by kernel_rfl) (by simp) ?_
  refine AllReadyH.cons (o := ⟨none, _, _, _, _, _⟩) rfl (fun K hK => ?_) AllReadyH.nil
  rw [if_pos (by rfl)]
  refine wp_store_row 60 _ _ rfl (w.heap.size + 1) #[.int .i64 p0, .int .i64 p1, .int .i64 p2, .slice B3 n3 d3, .slice B4 n4 d4, .slice B5 n5 d5, .slice B6 n6 d6, .int .i64 p7, .slice B8 r.length d8] rfl rfl 60 _ GO (by kernel_rfl) (by kernel_rfl) (by kernel_rfl) ?_
  replace GO := box_row (cs := #[.int .i64 p0, .int .i64 p1, .int .i64 p2, .slice B3 n3 d3, .slice B4 n4 d4, .slice B5 n5 d5, .slice B6 n6 d6, .int .i64 p7, .slice B8 r.length d8]) GO
  have hc1 := chg_row x2 (w.heap.size + 1) #[.int .i64 p0, .int .i64 p1, .int .i64 p2, .slice B3 n3 d3, .slice B4 n4 d4, .slice B5 n5 d5, .slice B6 n6 d6, .int .i64 p7, .slice B8 r.length d8]
  have MB := Lib.hid (SepPackage_bd MS.out)
  have hbd := MB.out
  replace G3 := G3.chg hc1 (by omega)
  replace G4 := G4.chg hc1 (by omega)
  replace G5 := G5.chg hc1 (by omega)
  replace G6 := G6.chg hc1 (by omega)
  replace G8 := G8.chg hc1 (by omega)
  clear hbd
  have hzz : x2.heap.size ≤ (World.setRow x2 (w.heap.size + 1) #[.int .i64 p0, .int .i64 p1, .int .i64 p2, .slice B3 n3 d3, .slice B4 n4 d4, .slice B5 n5 d5, .slice B6 n6 d6, .int .i64 p7, .slice B8 r.length d8]).heap.size := by simp
  refine hK.out _ _ ⟨hHeld.1.chg hc1 (by omega), below_setRow hHeld.2 (by omega) _⟩ (fun hHeld' => ?_)
  clear hc1
  clear hK K hHeld
  have hHeld := hHeld'
  clear hHeld'
  try simp only [Act.put, List.setIfInBounds_toArray, List.set_cons_zero, List.set_cons_succ]
  generalize World.setRow x2 (w.heap.size + 1) #[.int .i64 p0, .int .i64 p1, .int .i64 p2, .slice B3 n3 d3, .slice B4 n4 d4, .slice B5 n5 d5, .slice B6 n6 d6, .int .i64 p7, .slice B8 r.length d8] = wf at hHeld hzz GO G3 G4 G5 G6 G8 ⊢
  refine wpAnyH_done (by kernel_rfl) ?_ _
  go_wp2_with fail
  have KF := GO
  have f0 := KF.at_ (j := 0) rfl
  have f1 := KF.at_ (j := 1) rfl
  have f2 := KF.at_ (j := 2) rfl
  have f3 := KF.at_ (j := 3) rfl
  have f4 := KF.at_ (j := 4) rfl
  have f5 := KF.at_ (j := 5) rfl
  have f6 := KF.at_ (j := 6) rfl
  have f7 := KF.at_ (j := 7) rfl
  have f8 := KF.at_ (j := 8) rfl
  exact bodyPost_ret (v := .agg #[.int .i64 p0, .int .i64 p1, .int .i64 p2, .slice B3 n3 d3, .slice B4 n4 d4, .slice B5 n5 d5, .slice B6 n6 d6, .int .i64 p7, .slice B8 r.length d8]) (by simp [results, Try.results37, go_sem, f0, f1, f2, f3, f4, f5, f6, f7, f8]) rfl
    ⟨B3, B4, B5, B6, B8, d3, g3, i3, d4, g4, i4, d5, g5, i5, d6, g6, i6, d8, x1.heap.size, x2.heap.size, rfl, G3, G4, G5, G6, G8,
      Lib.hid ⟨x0.heap.size, x1.heap.size, by omega, by omega, by omega, MS.out, by omega, by omega, by omega, .inl (Nat.le_refl _)⟩, hHeld.2⟩
/-- The entries of an extension. (A def of its own: the walk rewrites a filter in a slice's length.) -/
def mOwnS (l : List TStored) (e : Int) : List TStored := l.filter fun x => x.f0 == e
theorem mOwnS_len (l : List TStored) (e : Int) : (mOwnS l e).length ≤ l.length := List.length_filter_le _ _
set_option maxHeartbeats 8000000 in
theorem impl_TakeSnapshot (p0 p1 p2 : Int) (l3 : List TGrant) (A3 : Option Addr) (n3 c3 lo3 hi3 : Nat) (l4 : List TFlow) (A4 : Option Addr) (n4 c4 lo4 hi4 : Nat) (l5 : List TRule) (A5 : Option Addr) (n5 c5 lo5 hi5 : Nat) (l6 : List TOp) (A6 : Option Addr) (n6 c6 lo6 hi6 : Nat) (p7 : Int) (l8 : List TStored) (A8 : Option Addr) (n8 c8 lo8 hi8 : Nat) (w : World) (h3 : n3 ≤ 1048576) (r3 : Rd w lo3 hi3 7 A3 n3 (cGrant l3)) (b3 : Hid (cGrantOk l3)) (h4 : n4 ≤ 1048576) (r4 : Rd w lo4 hi4 3 A4 n4 (cFlow l4)) (b4 : Hid (cFlowOk l4)) (h5 : n5 ≤ 1048576) (r5 : Rd w lo5 hi5 8 A5 n5 (cRule l5)) (b5 : Hid (cRuleOk l5)) (h6 : n6 ≤ 1048576) (r6 : Rd w lo6 hi6 4 A6 n6 (cOp l6)) (b6 : Hid (cOpOk l6)) (h8 : n8 ≤ 1048576) (r8 : Rd w lo8 hi8 4 A8 n8 (cStored l8)) (b8 : Hid (cStoredOk l8)) :
    Calls Try.prog 39 #[.agg #[.int .i64 p0, .int .i64 p1, .int .i64 p2, .slice A3 n3 c3, .slice A4 n4 c4, .slice A5 n5 c5, .slice A6 n6 c6, .int .i64 p7], .slice A8 n8 c8] w (MakesSnapshot p0 p1 p2 l3.length l3 l4.length l4 l5.length l5 l6.length l6 p7 (mOwnS l8 p0).length (mOwnS l8 p0) w) := by
  unfold mOwnS
  exact impl_TakeSnapshot0 p0 p1 p2 l3 A3 n3 c3 lo3 hi3 l4 A4 n4 c4 lo4 hi4 l5 A5 n5 c5 lo5 hi5 l6 A6 n6 c6 lo6 hi6 p7 l8 A8 n8 c8 lo8 hi8 w h3 r3 b3 h4 r4 b4 h5 r5 b5 h6 r6 b6 h8 r8 b8
set_option maxHeartbeats 8000000 in
theorem spec_TakeSnapshot (p0 p1 p2 : Int) (l3 : List TGrant) (A3 : Option Addr) (n3 c3 lo3 hi3 : Nat) (l4 : List TFlow) (A4 : Option Addr) (n4 c4 lo4 hi4 : Nat) (l5 : List TRule) (A5 : Option Addr) (n5 c5 lo5 hi5 : Nat) (l6 : List TOp) (A6 : Option Addr) (n6 c6 lo6 hi6 : Nat) (p7 : Int) (l8 : List TStored) (A8 : Option Addr) (n8 c8 lo8 hi8 : Nat) (w : World) (h3 : n3 ≤ 1048576) (r3 : Rd w lo3 hi3 7 A3 n3 (cGrant l3)) (b3 : Hid (cGrantOk l3)) (h4 : n4 ≤ 1048576) (r4 : Rd w lo4 hi4 3 A4 n4 (cFlow l4)) (b4 : Hid (cFlowOk l4)) (h5 : n5 ≤ 1048576) (r5 : Rd w lo5 hi5 8 A5 n5 (cRule l5)) (b5 : Hid (cRuleOk l5)) (h6 : n6 ≤ 1048576) (r6 : Rd w lo6 hi6 4 A6 n6 (cOp l6)) (b6 : Hid (cOpOk l6)) (h8 : n8 ≤ 1048576) (r8 : Rd w lo8 hi8 4 A8 n8 (cStored l8)) (b8 : Hid (cStoredOk l8)) :
    Calls Try.prog 37 #[.agg #[.int .i64 p0, .int .i64 p1, .int .i64 p2, .slice A3 n3 c3, .slice A4 n4 c4, .slice A5 n5 c5, .slice A6 n6 c6, .int .i64 p7], .slice A8 n8 c8] w (MakesSnapshot p0 p1 p2 l3.length l3 l4.length l4 l5.length l5 l6.length l6 p7 (mOwnS l8 p0).length (mOwnS l8 p0) w) := by
  unfold mOwnS
  exact spec_TakeSnapshot0 p0 p1 p2 l3 A3 n3 c3 lo3 hi3 l4 A4 n4 c4 lo4 hi4 l5 A5 n5 c5 lo5 hi5 l6 A6 n6 c6 lo6 hi6 p7 l8 A8 n8 c8 lo8 hi8 w h3 r3 b3 h4 r4 b4 h5 r5 b5 h6 r6 b6 h8 r8 b8
end Go.Proofs.Ytejcioenoofjlaa
