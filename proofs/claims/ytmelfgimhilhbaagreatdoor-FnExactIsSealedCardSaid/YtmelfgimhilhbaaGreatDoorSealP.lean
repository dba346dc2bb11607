/- SealPackage, of the program and of the model. -/
import Derived.Test.YtmelfgimhilhbaaGreatDoorSeal
import Derived.Test.YtmelfgimhilhbaaGreatDoorCpP
import Derived.Test.YtmelfgimhilhbaaGreatDoorPkS
import Derived.Test.YtmelfgimhilhbaaGreatDoorValid
namespace Go.Proofs.YtmelfgimhilhbaaGreatDoor
open Go Go.ChangeShapes Go.WideShapes Go.ChangeAt Go.RowKit Go.Lib
set_option linter.unusedVariables false
set_option linter.unusedSimpArgs false
set_option maxRecDepth 100000
theorem inR_fits {x a b : Int} (h : inR x a b = true) (ha : -9223372036854775808 ≤ a) (hb : b ≤ 9223372036854775807) : -9223372036854775808 ≤ x ∧ x ≤ 9223372036854775807 := by have := inR_true.1 h; omega
theorem mPInts_fits {p0 p1 p2 : Int} {l3 : List TGrant} {l4 : List TFlow} {l5 : List TRule} {l6 : List TOp} (b3 : cGrantOk l3) (b4 : cFlowOk l4) (b5 : cRuleOk l5) (b6 : cOpOk l6) (n3 : l3.length ≤ 1048576) (n4 : l4.length ≤ 1048576) (n5 : l5.length ≤ 1048576) (n6 : l6.length ≤ 1048576) (hq : mIsPack p0 p1 p2 l3 l4 l5 l6 = true) : I64s (mPInts p0 p1 p2 l3 l4 l5 l6) := by
  unfold mPInts
  rw [if_pos hq]
  have hp : (-9223372036854775808 ≤ p0 ∧ p0 ≤ 9223372036854775807) ∧ (-9223372036854775808 ≤ p1 ∧ p1 ≤ 9223372036854775807) ∧ (-9223372036854775808 ≤ p2 ∧ p2 ≤ 9223372036854775807) := by
    unfold mIsPack at hq
    simp only [Bool.and_eq_true] at hq
    exact ⟨inR_fits hq.1.1.1.1.1.1 (by omega) (by omega), inR_fits hq.1.1.1.1.1.2 (by omega) (by omega), inR_fits hq.1.1.1.1.2 (by omega) (by omega)⟩
  obtain ⟨h0, h1, h2⟩ := hp
  intro z hz
  unfold mAll cnt at hz
  simp only [List.mem_append, List.mem_cons, List.not_mem_nil, or_false, List.mem_flatMap] at hz
  rcases hz with (((( rfl | rfl | rfl) | (rfl | ⟨x, hx, hz⟩)) | (rfl | ⟨x, hx, hz⟩)) | (rfl | ⟨x, hx, hz⟩)) | (rfl | ⟨x, hx, hz⟩)
  · exact h0
  · exact h1
  · exact h2
  · omega
  · have h := b3 x hx
    simp only [iG, List.mem_cons, List.not_mem_nil, or_false] at hz
    rcases hz with rfl | rfl | rfl | rfl | rfl | rfl
    · exact h.2.1
    · exact h.2.2.1
    · exact h.2.2.2.1
    · exact h.2.2.2.2.1
    · exact h.2.2.2.2.2
    · split <;> omega
  · omega
  · have h := b4 x hx
    simp only [iF, List.mem_cons, List.not_mem_nil, or_false] at hz
    rcases hz with rfl | rfl
    · exact h.2.1
    · exact h.2.2
  · omega
  · have h := b5 x hx
    simp only [iR, List.mem_cons, List.not_mem_nil, or_false] at hz
    rcases hz with rfl | rfl | rfl | rfl | rfl | rfl | rfl
    · exact h.2.1
    · exact h.2.2.1
    · exact h.2.2.2.1
    · exact h.2.2.2.2.1
    · exact h.2.2.2.2.2.1
    · exact h.2.2.2.2.2.2.1
    · exact h.2.2.2.2.2.2.2
  · omega
  · have h := b6 x hx
    simp only [iO, List.mem_cons, List.not_mem_nil, or_false] at hz
    rcases hz with rfl | rfl | rfl | rfl
    · exact h.1
    · exact h.2.1
    · exact h.2.2.1
    · exact h.2.2.2
def mSealPk (k p0 p1 p2 : Int) (l3 : List TGrant) (l4 : List TFlow) (l5 : List TRule) (l6 : List TOp) : Int := if mIsPack p0 p1 p2 l3 l4 l5 l6 = true then (if mValid k = true then mKHash k (mPInts p0 p1 p2 l3 l4 l5 l6) else 0) else 0
set_option maxHeartbeats 16000000 in
theorem impl_SealPackageC (a0 : Int) (p0 p1 p2 : Int) (l3 : List TGrant) (A3 : Option Addr) (n3 c3 lo3 hi3 : Nat) (l4 : List TFlow) (A4 : Option Addr) (n4 c4 lo4 hi4 : Nat) (l5 : List TRule) (A5 : Option Addr) (n5 c5 lo5 hi5 : Nat) (l6 : List TOp) (A6 : Option Addr) (n6 c6 lo6 hi6 : Nat) (p7 : Int) (w : World) (hT : Pow10 w) (wf0 : (Lit.int .i64 a0).wf = true) (h3 : n3 ≤ 1048576) (r3 : Rd w lo3 hi3 7 A3 n3 (cGrant l3)) (k3 : n3 ≤ c3) (b3 : Hid (cGrantOk l3)) (h4 : n4 ≤ 1048576) (r4 : Rd w lo4 hi4 3 A4 n4 (cFlow l4)) (k4 : n4 ≤ c4) (b4 : Hid (cFlowOk l4)) (h5 : n5 ≤ 1048576) (r5 : Rd w lo5 hi5 8 A5 n5 (cRule l5)) (k5 : n5 ≤ c5) (b5 : Hid (cRuleOk l5)) (h6 : n6 ≤ 1048576) (r6 : Rd w lo6 hi6 4 A6 n6 (cOp l6)) (k6 : n6 ≤ c6) (b6 : Hid (cOpOk l6)) :
    Calls Tryz.prog 15 #[.int .i64 a0, .agg #[.int .i64 p0, .int .i64 p1, .int .i64 p2, .slice A3 n3 c3, .slice A4 n4 c4, .slice A5 n5 c5, .slice A6 n6 c6, .int .i64 p7]] w (MakesPackage p0 p1 p2 l3.length l3 l4.length l4 l5.length l5 l6.length l6 (mSealPk a0 p0 p1 p2 l3 l4 l5 l6) w) := by
  have HL3 := rd_len TGrant.len r3 (by decide)
  have HL4 := rd_len TFlow.len r4 (by decide)
  have HL5 := rd_len TRule.len r5 (by decide)
  have HL6 := rd_len TOp.len r6 (by decide)
  rw [HL3, HL4, HL5, HL6]
  have HT := Lib.hid hT
  have R3 := Lib.hid (r3.old (by decide))
  have R4 := Lib.hid (r4.old (by decide))
  have R5 := Lib.hid (r5.old (by decide))
  have R6 := Lib.hid (r6.old (by decide))
  have WF := Lib.hid wf0
  have HB := Lib.hid (Below.refl w.heap.size w)
  have KB0 := Lib.hid ((box_new w 39 #[.int .i64 p0, .int .i64 p1, .int .i64 p2, .slice A3 n3 c3, .slice A4 n4 c4, .slice A5 n5 c5, .slice A6 n6 c6, .int .i64 p7]).alloc_ (.cells #[.int .i64 0, .int .i64 0, .int .i64 0, .slice none 0 0, .slice none 0 0, .slice none 0 0, .slice none 0 0, .int .i64 0] 39))
  have KR0 : Hid (BoxAt ((w.alloc (.cells #[.int .i64 p0, .int .i64 p1, .int .i64 p2, .slice A3 n3 c3, .slice A4 n4 c4, .slice A5 n5 c5, .slice A6 n6 c6, .int .i64 p7] 39)).alloc (.cells #[.int .i64 0, .int .i64 0, .int .i64 0, .slice none 0 0, .slice none 0 0, .slice none 0 0, .slice none 0 0, .int .i64 0] 39)) (w.heap.size + 1) 39 #[.int .i64 0, .int .i64 0, .int .i64 0, .slice none 0 0, .slice none 0 0, .slice none 0 0, .slice none 0 0, .int .i64 0]) := Lib.hid (by simpa using box_new (w.alloc (.cells #[.int .i64 p0, .int .i64 p1, .int .i64 p2, .slice A3 n3 c3, .slice A4 n4 c4, .slice A5 n5 c5, .slice A6 n6 c6, .int .i64 p7] 39)) 39 #[.int .i64 0, .int .i64 0, .int .i64 0, .slice none 0 0, .slice none 0 0, .slice none 0 0, .slice none 0 0, .int .i64 0])
  clear r3 r4 r5 r6 hT wf0 HL3 HL4 HL5 HL6
  cases hq : mIsPack p0 p1 p2 l3 l4 l5 l6 with
  | false =>
    have HE := Lib.hid (show mSealPk a0 p0 p1 p2 l3 l4 l5 l6 = 0 by unfold mSealPk; rw [if_neg (by rw [hq]; decide)])
    go_enter Tryz.func15, Tryz.ntmps15
    go_wp2_with fail
    refine (impl_copyPackage p0 p1 p2 l3 A3 n3 c3 0 w.heap.size l4 A4 n4 c4 0 w.heap.size l5 A5 n5 c5 0 w.heap.size l6 A6 n6 c6 0 w.heap.size p7 _ h3 (R3.out.below (by repeat (first | with_reducible exact Below.refl _ _ | (with_reducible exact HB.out) | (with_reducible refine Below.setCell ?_ (by first | omega | (simp; done) | (simp <;> omega)) _) | (with_reducible refine Below.alloc ?_ (by first | omega | (simp; done) | (simp <;> omega)) _) | (refine Below.alloc ?_ (by first | omega | (simp; done) | (simp <;> omega)) _) | (refine Below.setCell ?_ (by first | omega | (simp; done) | (simp <;> omega)) _))) (Nat.le_refl _)) h4 (R4.out.below (by repeat (first | with_reducible exact Below.refl _ _ | (with_reducible exact HB.out) | (with_reducible refine Below.setCell ?_ (by first | omega | (simp; done) | (simp <;> omega)) _) | (with_reducible refine Below.alloc ?_ (by first | omega | (simp; done) | (simp <;> omega)) _) | (refine Below.alloc ?_ (by first | omega | (simp; done) | (simp <;> omega)) _) | (refine Below.setCell ?_ (by first | omega | (simp; done) | (simp <;> omega)) _))) (Nat.le_refl _)) h5 (R5.out.below (by repeat (first | with_reducible exact Below.refl _ _ | (with_reducible exact HB.out) | (with_reducible refine Below.setCell ?_ (by first | omega | (simp; done) | (simp <;> omega)) _) | (with_reducible refine Below.alloc ?_ (by first | omega | (simp; done) | (simp <;> omega)) _) | (refine Below.alloc ?_ (by first | omega | (simp; done) | (simp <;> omega)) _) | (refine Below.setCell ?_ (by first | omega | (simp; done) | (simp <;> omega)) _))) (Nat.le_refl _)) h6 (R6.out.below (by repeat (first | with_reducible exact Below.refl _ _ | (with_reducible exact HB.out) | (with_reducible refine Below.setCell ?_ (by first | omega | (simp; done) | (simp <;> omega)) _) | (with_reducible refine Below.alloc ?_ (by first | omega | (simp; done) | (simp <;> omega)) _) | (refine Below.alloc ?_ (by first | omega | (simp; done) | (simp <;> omega)) _) | (refine Below.setCell ?_ (by first | omega | (simp; done) | (simp <;> omega)) _))) (Nat.le_refl _))).mono ?_
    rintro e w1 ⟨B3, B4, B5, B6, d3, g3, i3, d4, g4, i4, d5, g5, i5, d6, g6, i6, rfl, F3, F4, F5, F6, MS, hb⟩
    have KB1 := Lib.hid (KB0.out.new hb)
    have KR1 := Lib.hid (KR0.out.new hb)
    replace MS : Hid (SepPackage (w.heap.size + 2) w1.heap.size g3 i3 g4 i4 g5 i5 g6 i6) := Lib.hid (by have h := MS.out; unfold SepPackage at h ⊢; simp at h; omega)
    have MB := Lib.hid (SepPackage_bd MS.out)
    have hs1 := hb.size
    (try simp at hs1)
    replace HB := Lib.hid (show Below w.heap.size w w1 from Below.trans (by repeat (first | with_reducible exact Below.refl _ _ | (with_reducible exact HB.out) | (with_reducible refine Below.setCell ?_ (by first | omega | (simp; done) | (simp <;> omega)) _) | (with_reducible refine Below.alloc ?_ (by first | omega | (simp; done) | (simp <;> omega)) _) | (refine Below.alloc ?_ (by first | omega | (simp; done) | (simp <;> omega)) _) | (refine Below.setCell ?_ (by first | omega | (simp; done) | (simp <;> omega)) _))) (hb.mono (by first | omega | (simp; done) | (simp <;> omega))))
    have G3 := Lib.hid F3
    have G4 := Lib.hid F4
    have G5 := Lib.hid F5
    have G6 := Lib.hid F6
    have KO1 := Lib.hid (box_new w1 39 #[.int .i64 p0, .int .i64 p1, .int .i64 p2, .slice B3 n3 d3, .slice B4 n4 d4, .slice B5 n5 d5, .slice B6 n6 d6, .int .i64 0])
    have hz1 : w.heap.size + 1 < w1.heap.size := by omega
    clear hb F3 F4 F5 F6 KB0 KR0
    have HB2 := Lib.hid (show Below w.heap.size w (w1.alloc (.cells #[.int .i64 p0, .int .i64 p1, .int .i64 p2, .slice B3 n3 d3, .slice B4 n4 d4, .slice B5 n5 d5, .slice B6 n6 d6, .int .i64 0] 39)) from by repeat (first | with_reducible exact Below.refl _ _ | (with_reducible exact HB.out) | (with_reducible refine Below.setCell ?_ (by first | omega | (simp; done) | (simp <;> omega)) _) | (with_reducible refine Below.alloc ?_ (by first | omega | (simp; done) | (simp <;> omega)) _) | (refine Below.alloc ?_ (by first | omega | (simp; done) | (simp <;> omega)) _) | (refine Below.setCell ?_ (by first | omega | (simp; done) | (simp <;> omega)) _)))
    have CQ := Lib.hid (impl_IsPackageC p0 p1 p2 l3 A3 n3 c3 0 w.heap.size l4 A4 n4 c4 0 w.heap.size l5 A5 n5 c5 0 w.heap.size l6 A6 n6 c6 0 w.heap.size p7 (w1.alloc (.cells #[.int .i64 p0, .int .i64 p1, .int .i64 p2, .slice B3 n3 d3, .slice B4 n4 d4, .slice B5 n5 d5, .slice B6 n6 d6, .int .i64 0] 39)) h3 (R3.out.below HB2.out (Nat.le_refl _)) k3 b3 h4 (R4.out.below HB2.out (Nat.le_refl _)) k4 b4 h5 (R5.out.below HB2.out (Nat.le_refl _)) k5 b5 h6 (R6.out.below HB2.out (Nat.le_refl _)) k6 b6)
    rw [hq] at CQ
    have k0 := KB1.out.at_ (j := 0) rfl
    have k1 := KB1.out.at_ (j := 1) rfl
    have k2 := KB1.out.at_ (j := 2) rfl
    have k3 := KB1.out.at_ (j := 3) rfl
    have k4 := KB1.out.at_ (j := 4) rfl
    have k5 := KB1.out.at_ (j := 5) rfl
    have k6 := KB1.out.at_ (j := 6) rfl
    have k7 := KB1.out.at_ (j := 7) rfl
    have kf := fun j => KB1.out.free j
    have kz : w.heap.size < w1.heap.size := by omega
    go_wp2_with fail
    clear k0 k1 k2 k3 k4 k5 k6 k7 kf kz
    refine CQ.out.mono ?_
    rintro e w3 ⟨rfl, hb⟩
    have KO3 := Lib.hid (show BoxAt w3 w1.heap.size 39 #[.int .i64 p0, .int .i64 p1, .int .i64 p2, .slice B3 n3 d3, .slice B4 n4 d4, .slice B5 n5 d5, .slice B6 n6 d6, .int .i64 0] from KO1.out.new hb)
    have KB3 := Lib.hid ((KB1.out.alloc_ _).new hb)
    have KR3 := Lib.hid ((KR1.out.alloc_ _).new hb)
    have HB3 := Lib.hid (below_trans HB2.out hb (Nat.le_refl _))
    have hs3 := hb.size
    (try simp [World.setCell] at hs3)
    have P3 := Lib.hid ((G3.out.alloc _).new hb)
    have P4 := Lib.hid ((G4.out.alloc _).new hb)
    have P5 := Lib.hid ((G5.out.alloc _).new hb)
    have P6 := Lib.hid ((G6.out.alloc _).new hb)
    clear hb CQ KO1 KB1 KR1 G3 G4 G5 G6
    have KOf := KO3
    have KRf := KR3
    have HBf := HB3
    have HSz := Lib.hid (show w1.heap.size ≤ w3.heap.size by omega)
    have G3 := P3
    have G4 := P4
    have G5 := P5
    have G6 := P6
    clear KO3 KR3 HB3 P3 P4 P5 P6 KB3
    have k0 := KOf.out.at_ (j := 0) rfl
    have q0 := KRf.out.at_ (j := 0) rfl
    have k1 := KOf.out.at_ (j := 1) rfl
    have q1 := KRf.out.at_ (j := 1) rfl
    have k2 := KOf.out.at_ (j := 2) rfl
    have q2 := KRf.out.at_ (j := 2) rfl
    have k3 := KOf.out.at_ (j := 3) rfl
    have q3 := KRf.out.at_ (j := 3) rfl
    have k4 := KOf.out.at_ (j := 4) rfl
    have q4 := KRf.out.at_ (j := 4) rfl
    have k5 := KOf.out.at_ (j := 5) rfl
    have q5 := KRf.out.at_ (j := 5) rfl
    have k6 := KOf.out.at_ (j := 6) rfl
    have q6 := KRf.out.at_ (j := 6) rfl
    have k7 := KOf.out.at_ (j := 7) rfl
    have q7 := KRf.out.at_ (j := 7) rfl
    have qf := fun j => KRf.out.free j
    have kf := fun j => KOf.out.free j
    have hol := KOf.out.lt
    have hrl := KRf.out.lt
    go_wp2_with fail
    have Z0 := KRf.out
    replace Z0 := (show BoxAt _ (w.heap.size + 1) 39 #[.int .i64 p0, .int .i64 0, .int .i64 0, .slice none 0 0, .slice none 0 0, .slice none 0 0, .slice none 0 0, .int .i64 0] from pk_put Z0 0 (.int .i64 p0))
    replace Z0 := (show BoxAt _ (w.heap.size + 1) 39 #[.int .i64 p0, .int .i64 p1, .int .i64 0, .slice none 0 0, .slice none 0 0, .slice none 0 0, .slice none 0 0, .int .i64 0] from pk_put Z0 1 (.int .i64 p1))
    replace Z0 := (show BoxAt _ (w.heap.size + 1) 39 #[.int .i64 p0, .int .i64 p1, .int .i64 p2, .slice none 0 0, .slice none 0 0, .slice none 0 0, .slice none 0 0, .int .i64 0] from pk_put Z0 2 (.int .i64 p2))
    replace Z0 := (show BoxAt _ (w.heap.size + 1) 39 #[.int .i64 p0, .int .i64 p1, .int .i64 p2, .slice B3 n3 d3, .slice none 0 0, .slice none 0 0, .slice none 0 0, .int .i64 0] from pk_put Z0 3 (.slice B3 n3 d3))
    replace Z0 := (show BoxAt _ (w.heap.size + 1) 39 #[.int .i64 p0, .int .i64 p1, .int .i64 p2, .slice B3 n3 d3, .slice B4 n4 d4, .slice none 0 0, .slice none 0 0, .int .i64 0] from pk_put Z0 4 (.slice B4 n4 d4))
    replace Z0 := (show BoxAt _ (w.heap.size + 1) 39 #[.int .i64 p0, .int .i64 p1, .int .i64 p2, .slice B3 n3 d3, .slice B4 n4 d4, .slice B5 n5 d5, .slice none 0 0, .int .i64 0] from pk_put Z0 5 (.slice B5 n5 d5))
    replace Z0 := (show BoxAt _ (w.heap.size + 1) 39 #[.int .i64 p0, .int .i64 p1, .int .i64 p2, .slice B3 n3 d3, .slice B4 n4 d4, .slice B5 n5 d5, .slice B6 n6 d6, .int .i64 0] from pk_put Z0 6 (.slice B6 n6 d6))
    replace Z0 := (show BoxAt _ (w.heap.size + 1) 39 #[.int .i64 p0, .int .i64 p1, .int .i64 p2, .slice B3 n3 d3, .slice B4 n4 d4, .slice B5 n5 d5, .slice B6 n6 d6, .int .i64 0] from pk_put Z0 7 (.int .i64 0))
    have KF := Z0
    have f0 := KF.at_ (j := 0) rfl
    have f1 := KF.at_ (j := 1) rfl
    have f2 := KF.at_ (j := 2) rfl
    have f3 := KF.at_ (j := 3) rfl
    have f4 := KF.at_ (j := 4) rfl
    have f5 := KF.at_ (j := 5) rfl
    have f6 := KF.at_ (j := 6) rfl
    have f7 := KF.at_ (j := 7) rfl
    rw [HE.out]
    exact bodyPost_ret (v := .agg #[.int .i64 p0, .int .i64 p1, .int .i64 p2, .slice B3 n3 d3, .slice B4 n4 d4, .slice B5 n5 d5, .slice B6 n6 d6, .int .i64 0]) (by simp [results, Tryz.results15, go_sem, f0, f1, f2, f3, f4, f5, f6, f7]) rfl
      ⟨B3, B4, B5, B6, d3, g3, i3, d4, g4, i4, d5, g5, i5, d6, g6, i6, rfl, (by repeat (first | with_reducible exact G3.out | (with_reducible refine Fr.put ?_ (by have h := MB.out; first | omega | (simp; done) | (simp <;> omega)) _) | (with_reducible refine Fr.alloc ?_ _))), (by repeat (first | with_reducible exact G4.out | (with_reducible refine Fr.put ?_ (by have h := MB.out; first | omega | (simp; done) | (simp <;> omega)) _) | (with_reducible refine Fr.alloc ?_ _))), (by repeat (first | with_reducible exact G5.out | (with_reducible refine Fr.put ?_ (by have h := MB.out; first | omega | (simp; done) | (simp <;> omega)) _) | (with_reducible refine Fr.alloc ?_ _))), (by repeat (first | with_reducible exact G6.out | (with_reducible refine Fr.put ?_ (by have h := MB.out; first | omega | (simp; done) | (simp <;> omega)) _) | (with_reducible refine Fr.alloc ?_ _))),
        Lib.hid (by have h := MS.out; have hz := HSz.out; unfold SepPackage at h ⊢; simp at h ⊢; omega), by repeat (first | with_reducible exact Below.refl _ _ | (with_reducible exact HBf.out) | (with_reducible refine Below.setCell ?_ (by first | omega | (simp; done) | (simp <;> omega)) _) | (with_reducible refine Below.alloc ?_ (by first | omega | (simp; done) | (simp <;> omega)) _) | (refine Below.alloc ?_ (by first | omega | (simp; done) | (simp <;> omega)) _) | (refine Below.setCell ?_ (by first | omega | (simp; done) | (simp <;> omega)) _))⟩
  | true =>
    cases hv : mValid a0 with
    | false =>
      have HE := Lib.hid (show mSealPk a0 p0 p1 p2 l3 l4 l5 l6 = 0 by unfold mSealPk; rw [if_pos hq, if_neg (by rw [hv]; decide)])
      have HLen := Lib.hid (mPInts_len p0 p1 p2 l3 l4 l5 l6)
      have CI := Lib.hid (fun (W : World) (h : Below w.heap.size w W) => impl_PackageIntsC p0 p1 p2 l3 A3 n3 c3 0 w.heap.size l4 A4 n4 c4 0 w.heap.size l5 A5 n5 c5 0 w.heap.size l6 A6 n6 c6 0 w.heap.size p7 W h3 (R3.out.below h (Nat.le_refl _)) k3 b3 h4 (R4.out.below h (Nat.le_refl _)) k4 b4 h5 (R5.out.below h (Nat.le_refl _)) k5 b5 h6 (R6.out.below h (Nat.le_refl _)) k6 b6)
      have hxl : (mPInts p0 p1 p2 l3 l4 l5 l6).length ≤ 1099511627000 := by have h := HLen.out; have := rd_len TGrant.len R3.out (by decide); have := rd_len TFlow.len R4.out (by decide); have := rd_len TRule.len R5.out (by decide); have := rd_len TOp.len R6.out (by decide); omega
      have HXb := Lib.hid (mPInts_fits b3.out b4.out b5.out b6.out (p0 := p0) (p1 := p1) (p2 := p2) (by have := rd_len TGrant.len R3.out (by decide); omega) (by have := rd_len TFlow.len R4.out (by decide); omega) (by have := rd_len TRule.len R5.out (by decide); omega) (by have := rd_len TOp.len R6.out (by decide); omega) hq)
      generalize mPInts p0 p1 p2 l3 l4 l5 l6 = X at HE CI hxl HXb
      generalize hnx : X.length = nx at CI hxl
      clear hnx HLen
      go_enter Tryz.func15, Tryz.ntmps15
      go_wp2_with fail
      refine (impl_copyPackage p0 p1 p2 l3 A3 n3 c3 0 w.heap.size l4 A4 n4 c4 0 w.heap.size l5 A5 n5 c5 0 w.heap.size l6 A6 n6 c6 0 w.heap.size p7 _ h3 (R3.out.below (by repeat (first | with_reducible exact Below.refl _ _ | (with_reducible exact HB.out) | (with_reducible refine Below.setCell ?_ (by first | omega | (simp; done) | (simp <;> omega)) _) | (with_reducible refine Below.alloc ?_ (by first | omega | (simp; done) | (simp <;> omega)) _) | (refine Below.alloc ?_ (by first | omega | (simp; done) | (simp <;> omega)) _) | (refine Below.setCell ?_ (by first | omega | (simp; done) | (simp <;> omega)) _))) (Nat.le_refl _)) h4 (R4.out.below (by repeat (first | with_reducible exact Below.refl _ _ | (with_reducible exact HB.out) | (with_reducible refine Below.setCell ?_ (by first | omega | (simp; done) | (simp <;> omega)) _) | (with_reducible refine Below.alloc ?_ (by first | omega | (simp; done) | (simp <;> omega)) _) | (refine Below.alloc ?_ (by first | omega | (simp; done) | (simp <;> omega)) _) | (refine Below.setCell ?_ (by first | omega | (simp; done) | (simp <;> omega)) _))) (Nat.le_refl _)) h5 (R5.out.below (by repeat (first | with_reducible exact Below.refl _ _ | (with_reducible exact HB.out) | (with_reducible refine Below.setCell ?_ (by first | omega | (simp; done) | (simp <;> omega)) _) | (with_reducible refine Below.alloc ?_ (by first | omega | (simp; done) | (simp <;> omega)) _) | (refine Below.alloc ?_ (by first | omega | (simp; done) | (simp <;> omega)) _) | (refine Below.setCell ?_ (by first | omega | (simp; done) | (simp <;> omega)) _))) (Nat.le_refl _)) h6 (R6.out.below (by repeat (first | with_reducible exact Below.refl _ _ | (with_reducible exact HB.out) | (with_reducible refine Below.setCell ?_ (by first | omega | (simp; done) | (simp <;> omega)) _) | (with_reducible refine Below.alloc ?_ (by first | omega | (simp; done) | (simp <;> omega)) _) | (refine Below.alloc ?_ (by first | omega | (simp; done) | (simp <;> omega)) _) | (refine Below.setCell ?_ (by first | omega | (simp; done) | (simp <;> omega)) _))) (Nat.le_refl _))).mono ?_
      rintro e w1 ⟨B3, B4, B5, B6, d3, g3, i3, d4, g4, i4, d5, g5, i5, d6, g6, i6, rfl, F3, F4, F5, F6, MS, hb⟩
      have KB1 := Lib.hid (KB0.out.new hb)
      have KR1 := Lib.hid (KR0.out.new hb)
      replace MS : Hid (SepPackage (w.heap.size + 2) w1.heap.size g3 i3 g4 i4 g5 i5 g6 i6) := Lib.hid (by have h := MS.out; unfold SepPackage at h ⊢; simp at h; omega)
      have MB := Lib.hid (SepPackage_bd MS.out)
      have hs1 := hb.size
      (try simp at hs1)
      replace HB := Lib.hid (show Below w.heap.size w w1 from Below.trans (by repeat (first | with_reducible exact Below.refl _ _ | (with_reducible exact HB.out) | (with_reducible refine Below.setCell ?_ (by first | omega | (simp; done) | (simp <;> omega)) _) | (with_reducible refine Below.alloc ?_ (by first | omega | (simp; done) | (simp <;> omega)) _) | (refine Below.alloc ?_ (by first | omega | (simp; done) | (simp <;> omega)) _) | (refine Below.setCell ?_ (by first | omega | (simp; done) | (simp <;> omega)) _))) (hb.mono (by first | omega | (simp; done) | (simp <;> omega))))
      have G3 := Lib.hid F3
      have G4 := Lib.hid F4
      have G5 := Lib.hid F5
      have G6 := Lib.hid F6
      have KO1 := Lib.hid (box_new w1 39 #[.int .i64 p0, .int .i64 p1, .int .i64 p2, .slice B3 n3 d3, .slice B4 n4 d4, .slice B5 n5 d5, .slice B6 n6 d6, .int .i64 0])
      have hz1 : w.heap.size + 1 < w1.heap.size := by omega
      clear hb F3 F4 F5 F6 KB0 KR0
      have HB2 := Lib.hid (show Below w.heap.size w (w1.alloc (.cells #[.int .i64 p0, .int .i64 p1, .int .i64 p2, .slice B3 n3 d3, .slice B4 n4 d4, .slice B5 n5 d5, .slice B6 n6 d6, .int .i64 0] 39)) from by repeat (first | with_reducible exact Below.refl _ _ | (with_reducible exact HB.out) | (with_reducible refine Below.setCell ?_ (by first | omega | (simp; done) | (simp <;> omega)) _) | (with_reducible refine Below.alloc ?_ (by first | omega | (simp; done) | (simp <;> omega)) _) | (refine Below.alloc ?_ (by first | omega | (simp; done) | (simp <;> omega)) _) | (refine Below.setCell ?_ (by first | omega | (simp; done) | (simp <;> omega)) _)))
      have CQ := Lib.hid (impl_IsPackageC p0 p1 p2 l3 A3 n3 c3 0 w.heap.size l4 A4 n4 c4 0 w.heap.size l5 A5 n5 c5 0 w.heap.size l6 A6 n6 c6 0 w.heap.size p7 (w1.alloc (.cells #[.int .i64 p0, .int .i64 p1, .int .i64 p2, .slice B3 n3 d3, .slice B4 n4 d4, .slice B5 n5 d5, .slice B6 n6 d6, .int .i64 0] 39)) h3 (R3.out.below HB2.out (Nat.le_refl _)) k3 b3 h4 (R4.out.below HB2.out (Nat.le_refl _)) k4 b4 h5 (R5.out.below HB2.out (Nat.le_refl _)) k5 b5 h6 (R6.out.below HB2.out (Nat.le_refl _)) k6 b6)
      rw [hq] at CQ
      have k0 := KB1.out.at_ (j := 0) rfl
      have k1 := KB1.out.at_ (j := 1) rfl
      have k2 := KB1.out.at_ (j := 2) rfl
      have k3 := KB1.out.at_ (j := 3) rfl
      have k4 := KB1.out.at_ (j := 4) rfl
      have k5 := KB1.out.at_ (j := 5) rfl
      have k6 := KB1.out.at_ (j := 6) rfl
      have k7 := KB1.out.at_ (j := 7) rfl
      have kf := fun j => KB1.out.free j
      have kz : w.heap.size < w1.heap.size := by omega
      go_wp2_with fail
      clear k0 k1 k2 k3 k4 k5 k6 k7 kf kz
      refine CQ.out.mono ?_
      rintro e w3 ⟨rfl, hb⟩
      have KO3 := Lib.hid (show BoxAt w3 w1.heap.size 39 #[.int .i64 p0, .int .i64 p1, .int .i64 p2, .slice B3 n3 d3, .slice B4 n4 d4, .slice B5 n5 d5, .slice B6 n6 d6, .int .i64 0] from KO1.out.new hb)
      have KB3 := Lib.hid ((KB1.out.alloc_ _).new hb)
      have KR3 := Lib.hid ((KR1.out.alloc_ _).new hb)
      have HB3 := Lib.hid (below_trans HB2.out hb (Nat.le_refl _))
      have hs3 := hb.size
      (try simp [World.setCell] at hs3)
      have P3 := Lib.hid ((G3.out.alloc _).new hb)
      have P4 := Lib.hid ((G4.out.alloc _).new hb)
      have P5 := Lib.hid ((G5.out.alloc _).new hb)
      have P6 := Lib.hid ((G6.out.alloc _).new hb)
      clear hb CQ KO1 KB1 KR1 G3 G4 G5 G6
      go_wp2_with fail
      have hg0 : w.heap.size ≤ w1.heap.size := by omega
      have hg1 : w1.heap.size ≠ w.heap.size := by omega
      have GO := KO3.out.drw
      refine wp_region_held_drew (S := fun w' => BoxAt w' w.heap.size 39 #[.int .i64 p0, .int .i64 p1, .int .i64 p2, .slice A3 n3 c3, .slice A4 n4 c4, .slice A5 n5 c5, .slice A6 n6 c6, .int .i64 p7] ∧ Chg w1.heap.size (w1.heap.size + 1) w3 w') (by kernel_rfl) ?_ (fun hHeld => ?_)
      · exact ⟨KB3.out.drw, (Chg.refl _ _ _).drewN 1⟩
      generalize World.drew w3 = x0 at hHeld GO ⊢
      refine wpAnyH_take (i := 0) (oi := ⟨some 11, _, _, _, _, _⟩) (v := ?_) rfl (by kernel_rfl) (by kernel_rfl) (by kernel_rfl) (fun _ _ _ h => h) (Or.inl ⟨by kernel_rfl, ?_⟩) hHeld ?_
      rotate_left
      focus (intro W hS; have c0_0 := (hS.1).at_ (j := 0) rfl; have c0_1 := (hS.1).at_ (j := 1) rfl; have c0_2 := (hS.1).at_ (j := 2) rfl; have c0_3 := (hS.1).at_ (j := 3) rfl; have c0_4 := (hS.1).at_ (j := 4) rfl; have c0_5 := (hS.1).at_ (j := 5) rfl; have c0_6 := (hS.1).at_ (j := 6) rfl; have c0_7 := (hS.1).at_ (j := 7) rfl; clear hS; first | (go_simp; done) | (go_simp; with_reducible rfl))
      try simp only [Act.put, List.setIfInBounds_toArray, List.set_cons_zero, List.set_cons_succ]
      refine wpAnyH_take (i := 2) (oi := ⟨some 13, _, _, _, _, _⟩) (v := ?_) rfl (by kernel_rfl) (by kernel_rfl) (by kernel_rfl) (fun _ _ _ h => h) (Or.inl ⟨by kernel_rfl, ?_⟩) hHeld ?_
      rotate_left
      focus (intro W hS; have c0_0 := (hS.1).at_ (j := 0) rfl; have c0_1 := (hS.1).at_ (j := 1) rfl; have c0_2 := (hS.1).at_ (j := 2) rfl; have c0_3 := (hS.1).at_ (j := 3) rfl; have c0_4 := (hS.1).at_ (j := 4) rfl; have c0_5 := (hS.1).at_ (j := 5) rfl; have c0_6 := (hS.1).at_ (j := 6) rfl; have c0_7 := (hS.1).at_ (j := 7) rfl; clear hS; first | (go_simp; done) | (go_simp; with_reducible rfl))
      try simp only [Act.put, List.setIfInBounds_toArray, List.set_cons_zero, List.set_cons_succ]
      refine wpAnyH_ready (rs := [1]) (by kernel_rfl) (by simp) ?_
      refine AllReadyH.cons (o := ⟨some 12, _, _, _, _, _⟩) rfl (fun K hK => ?_) AllReadyH.nil
      go_simp
      refine Calls.mono (impl_sealer_no a0 _ (pow10_below HT.out (HB3.out.trans (hHeld.2.below (.inl hg0) HB3.out.size))) WF.out hv) ?_
      rintro e x1 ⟨rfl, hb1⟩
      replace GO := GO.new hb1
      refine hK.out _ _ ⟨hHeld.1.new hb1, Chg.trans hHeld.2 (chg_of_new hb1)⟩ (fun hHeld' => ?_)
      clear hK K hHeld hb1
      have hHeld := hHeld'
      clear hHeld'
      try simp only [Act.put, List.setIfInBounds_toArray, List.set_cons_zero, List.set_cons_succ]
      refine wpAnyH_ready (rs := [3]) (by kernel_rfl) (by simp) ?_
      refine AllReadyH.cons (o := ⟨some 14, _, _, _, _, _⟩) rfl (fun K hK => ?_) AllReadyH.nil
      go_simp
      refine Calls.mono (CI.out _ (HB3.out.trans (hHeld.2.below (.inl hg0) HB3.out.size))) ?_
      rintro e x2 ⟨AI, cI, rfl, GI, hb1⟩
      replace GO := GO.new hb1
      refine hK.out _ _ ⟨hHeld.1.new hb1, Chg.trans hHeld.2 (chg_of_new hb1)⟩ (fun hHeld' => ?_)
      clear hK K hHeld hb1
      have hHeld := hHeld'
      clear hHeld'
      try simp only [Act.put, List.setIfInBounds_toArray, List.set_cons_zero, List.set_cons_succ]
      refine wpAnyH_ready (rs := [4]) (by kernel_rfl) (by simp) ?_
      refine AllReadyH.cons (o := ⟨some 15, _, _, _, _, _⟩) rfl (fun K hK => ?_) AllReadyH.nil
      go_simp
      refine Calls.mono (impl_sealer1 AI nx cI _) ?_
      rintro e x3 ⟨rfl, hb1⟩
      replace GO := GO.new hb1
      replace GI := GI.new hb1
      refine hK.out _ _ ⟨hHeld.1.new hb1, Chg.trans hHeld.2 (chg_of_new hb1)⟩ (fun hHeld' => ?_)
      clear hK K hHeld hb1
      have hHeld := hHeld'
      clear hHeld'
      try simp only [Act.put, List.setIfInBounds_toArray, List.set_cons_zero, List.set_cons_succ]
      refine wpAnyH_take (i := 5) (oi := ⟨some 16, _, _, _, _, _⟩) (v := ?_) rfl (by kernel_rfl) (by kernel_rfl) (by kernel_rfl) (fun _ _ _ h => h) (Or.inl ⟨by kernel_rfl, ?_⟩) hHeld ?_
      rotate_left
      focus (intro W hS; have c0_0 := (hS.1).at_ (j := 0) rfl; have c0_1 := (hS.1).at_ (j := 1) rfl; have c0_2 := (hS.1).at_ (j := 2) rfl; have c0_3 := (hS.1).at_ (j := 3) rfl; have c0_4 := (hS.1).at_ (j := 4) rfl; have c0_5 := (hS.1).at_ (j := 5) rfl; have c0_6 := (hS.1).at_ (j := 6) rfl; have c0_7 := (hS.1).at_ (j := 7) rfl; clear hS; first | (go_simp; done) | (go_simp; with_reducible rfl))
      try simp only [Act.put, List.setIfInBounds_toArray, List.set_cons_zero, List.set_cons_succ]
      refine wpAnyH_ready (rs := [6]) (by kernel_rfl) (by simp) ?_
      refine AllReadyH.cons (o := ⟨none, _, _, _, _, _⟩) rfl (fun K hK => ?_) AllReadyH.nil
      have c7 := GO.at_ (j := 7) rfl
      have f7 := GO.free 7
      have hlo := GO.lt
      go_simp
      clear c7 f7
      have GO2 := pk_put GO 7 (.int .i64 0)
      clear GO
      refine hK.out _ _ ⟨pk_past hHeld.1 (by omega), hHeld.2.set_ (.inl ⟨Nat.le_refl _, Nat.lt_succ_self _⟩) _⟩ (fun hHeld' => ?_)
      clear hK K hHeld
      have hHeld := hHeld'
      clear hHeld'
      try simp only [Act.put, List.setIfInBounds_toArray, List.set_cons_zero, List.set_cons_succ]
      generalize World.setCell x3 ⟨w1.heap.size, 7, none⟩ (.int .i64 0) = wf at hHeld GO2 ⊢
      refine wpAnyH_done (by kernel_rfl) ?_ _
      have KOf := Lib.hid (show BoxAt wf w1.heap.size 39 #[.int .i64 p0, .int .i64 p1, .int .i64 p2, .slice B3 n3 d3, .slice B4 n4 d4, .slice B5 n5 d5, .slice B6 n6 d6, .int .i64 0] from GO2)
      have KRf := Lib.hid (KR3.out.chg hHeld.2 (by omega))
      have HBf := Lib.hid (HB3.out.trans (hHeld.2.below (.inl hg0) HB3.out.size))
      have HSz := Lib.hid (show w1.heap.size ≤ wf.heap.size from Nat.le_trans (by omega) hHeld.2.size)
      have G3 := Lib.hid (P3.out.chg hHeld.2 (.inl (by have h := MB.out; omega)))
      have G4 := Lib.hid (P4.out.chg hHeld.2 (.inl (by have h := MB.out; omega)))
      have G5 := Lib.hid (P5.out.chg hHeld.2 (.inl (by have h := MB.out; omega)))
      have G6 := Lib.hid (P6.out.chg hHeld.2 (.inl (by have h := MB.out; omega)))
      clear GO2 hHeld KO3 KR3 HB3 P3 P4 P5 P6 KB3 CI
      have k0 := KOf.out.at_ (j := 0) rfl
      have q0 := KRf.out.at_ (j := 0) rfl
      have k1 := KOf.out.at_ (j := 1) rfl
      have q1 := KRf.out.at_ (j := 1) rfl
      have k2 := KOf.out.at_ (j := 2) rfl
      have q2 := KRf.out.at_ (j := 2) rfl
      have k3 := KOf.out.at_ (j := 3) rfl
      have q3 := KRf.out.at_ (j := 3) rfl
      have k4 := KOf.out.at_ (j := 4) rfl
      have q4 := KRf.out.at_ (j := 4) rfl
      have k5 := KOf.out.at_ (j := 5) rfl
      have q5 := KRf.out.at_ (j := 5) rfl
      have k6 := KOf.out.at_ (j := 6) rfl
      have q6 := KRf.out.at_ (j := 6) rfl
      have k7 := KOf.out.at_ (j := 7) rfl
      have q7 := KRf.out.at_ (j := 7) rfl
      have qf := fun j => KRf.out.free j
      have kf := fun j => KOf.out.free j
      have hol := KOf.out.lt
      have hrl := KRf.out.lt
      go_wp2_with fail
      have Z0 := KRf.out
      replace Z0 := (show BoxAt _ (w.heap.size + 1) 39 #[.int .i64 p0, .int .i64 0, .int .i64 0, .slice none 0 0, .slice none 0 0, .slice none 0 0, .slice none 0 0, .int .i64 0] from pk_put Z0 0 (.int .i64 p0))
      replace Z0 := (show BoxAt _ (w.heap.size + 1) 39 #[.int .i64 p0, .int .i64 p1, .int .i64 0, .slice none 0 0, .slice none 0 0, .slice none 0 0, .slice none 0 0, .int .i64 0] from pk_put Z0 1 (.int .i64 p1))
      replace Z0 := (show BoxAt _ (w.heap.size + 1) 39 #[.int .i64 p0, .int .i64 p1, .int .i64 p2, .slice none 0 0, .slice none 0 0, .slice none 0 0, .slice none 0 0, .int .i64 0] from pk_put Z0 2 (.int .i64 p2))
      replace Z0 := (show BoxAt _ (w.heap.size + 1) 39 #[.int .i64 p0, .int .i64 p1, .int .i64 p2, .slice B3 n3 d3, .slice none 0 0, .slice none 0 0, .slice none 0 0, .int .i64 0] from pk_put Z0 3 (.slice B3 n3 d3))
      replace Z0 := (show BoxAt _ (w.heap.size + 1) 39 #[.int .i64 p0, .int .i64 p1, .int .i64 p2, .slice B3 n3 d3, .slice B4 n4 d4, .slice none 0 0, .slice none 0 0, .int .i64 0] from pk_put Z0 4 (.slice B4 n4 d4))
      replace Z0 := (show BoxAt _ (w.heap.size + 1) 39 #[.int .i64 p0, .int .i64 p1, .int .i64 p2, .slice B3 n3 d3, .slice B4 n4 d4, .slice B5 n5 d5, .slice none 0 0, .int .i64 0] from pk_put Z0 5 (.slice B5 n5 d5))
      replace Z0 := (show BoxAt _ (w.heap.size + 1) 39 #[.int .i64 p0, .int .i64 p1, .int .i64 p2, .slice B3 n3 d3, .slice B4 n4 d4, .slice B5 n5 d5, .slice B6 n6 d6, .int .i64 0] from pk_put Z0 6 (.slice B6 n6 d6))
      replace Z0 := (show BoxAt _ (w.heap.size + 1) 39 #[.int .i64 p0, .int .i64 p1, .int .i64 p2, .slice B3 n3 d3, .slice B4 n4 d4, .slice B5 n5 d5, .slice B6 n6 d6, .int .i64 0] from pk_put Z0 7 (.int .i64 0))
      have KF := Z0
      have f0 := KF.at_ (j := 0) rfl
      have f1 := KF.at_ (j := 1) rfl
      have f2 := KF.at_ (j := 2) rfl
      have f3 := KF.at_ (j := 3) rfl
      have f4 := KF.at_ (j := 4) rfl
      have f5 := KF.at_ (j := 5) rfl
      have f6 := KF.at_ (j := 6) rfl
      have f7 := KF.at_ (j := 7) rfl
      rw [HE.out]
      exact bodyPost_ret (v := .agg #[.int .i64 p0, .int .i64 p1, .int .i64 p2, .slice B3 n3 d3, .slice B4 n4 d4, .slice B5 n5 d5, .slice B6 n6 d6, .int .i64 0]) (by simp [results, Tryz.results15, go_sem, f0, f1, f2, f3, f4, f5, f6, f7]) rfl
        ⟨B3, B4, B5, B6, d3, g3, i3, d4, g4, i4, d5, g5, i5, d6, g6, i6, rfl, (by repeat (first | with_reducible exact G3.out | (with_reducible refine Fr.put ?_ (by have h := MB.out; first | omega | (simp; done) | (simp <;> omega)) _) | (with_reducible refine Fr.alloc ?_ _))), (by repeat (first | with_reducible exact G4.out | (with_reducible refine Fr.put ?_ (by have h := MB.out; first | omega | (simp; done) | (simp <;> omega)) _) | (with_reducible refine Fr.alloc ?_ _))), (by repeat (first | with_reducible exact G5.out | (with_reducible refine Fr.put ?_ (by have h := MB.out; first | omega | (simp; done) | (simp <;> omega)) _) | (with_reducible refine Fr.alloc ?_ _))), (by repeat (first | with_reducible exact G6.out | (with_reducible refine Fr.put ?_ (by have h := MB.out; first | omega | (simp; done) | (simp <;> omega)) _) | (with_reducible refine Fr.alloc ?_ _))),
          Lib.hid (by have h := MS.out; have hz := HSz.out; unfold SepPackage at h ⊢; simp at h ⊢; omega), by repeat (first | with_reducible exact Below.refl _ _ | (with_reducible exact HBf.out) | (with_reducible refine Below.setCell ?_ (by first | omega | (simp; done) | (simp <;> omega)) _) | (with_reducible refine Below.alloc ?_ (by first | omega | (simp; done) | (simp <;> omega)) _) | (refine Below.alloc ?_ (by first | omega | (simp; done) | (simp <;> omega)) _) | (refine Below.setCell ?_ (by first | omega | (simp; done) | (simp <;> omega)) _))⟩
    | true =>
      have HE := Lib.hid (show mSealPk a0 p0 p1 p2 l3 l4 l5 l6 = mKHash a0 (mPInts p0 p1 p2 l3 l4 l5 l6) by unfold mSealPk; rw [if_pos hq, if_pos hv])
      have HLen := Lib.hid (mPInts_len p0 p1 p2 l3 l4 l5 l6)
      have CI := Lib.hid (fun (W : World) (h : Below w.heap.size w W) => impl_PackageIntsC p0 p1 p2 l3 A3 n3 c3 0 w.heap.size l4 A4 n4 c4 0 w.heap.size l5 A5 n5 c5 0 w.heap.size l6 A6 n6 c6 0 w.heap.size p7 W h3 (R3.out.below h (Nat.le_refl _)) k3 b3 h4 (R4.out.below h (Nat.le_refl _)) k4 b4 h5 (R5.out.below h (Nat.le_refl _)) k5 b5 h6 (R6.out.below h (Nat.le_refl _)) k6 b6)
      have hxl : (mPInts p0 p1 p2 l3 l4 l5 l6).length ≤ 1099511627000 := by have h := HLen.out; have := rd_len TGrant.len R3.out (by decide); have := rd_len TFlow.len R4.out (by decide); have := rd_len TRule.len R5.out (by decide); have := rd_len TOp.len R6.out (by decide); omega
      have HXb := Lib.hid (mPInts_fits b3.out b4.out b5.out b6.out (p0 := p0) (p1 := p1) (p2 := p2) (by have := rd_len TGrant.len R3.out (by decide); omega) (by have := rd_len TFlow.len R4.out (by decide); omega) (by have := rd_len TRule.len R5.out (by decide); omega) (by have := rd_len TOp.len R6.out (by decide); omega) hq)
      generalize mPInts p0 p1 p2 l3 l4 l5 l6 = X at HE CI hxl HXb
      generalize hnx : X.length = nx at CI hxl
      clear hnx HLen
      go_enter Tryz.func15, Tryz.ntmps15
      go_wp2_with fail
      refine (impl_copyPackage p0 p1 p2 l3 A3 n3 c3 0 w.heap.size l4 A4 n4 c4 0 w.heap.size l5 A5 n5 c5 0 w.heap.size l6 A6 n6 c6 0 w.heap.size p7 _ h3 (R3.out.below (by repeat (first | with_reducible exact Below.refl _ _ | (with_reducible exact HB.out) | (with_reducible refine Below.setCell ?_ (by first | omega | (simp; done) | (simp <;> omega)) _) | (with_reducible refine Below.alloc ?_ (by first | omega | (simp; done) | (simp <;> omega)) _) | (refine Below.alloc ?_ (by first | omega | (simp; done) | (simp <;> omega)) _) | (refine Below.setCell ?_ (by first | omega | (simp; done) | (simp <;> omega)) _))) (Nat.le_refl _)) h4 (R4.out.below (by repeat (first | with_reducible exact Below.refl _ _ | (with_reducible exact HB.out) | (with_reducible refine Below.setCell ?_ (by first | omega | (simp; done) | (simp <;> omega)) _) | (with_reducible refine Below.alloc ?_ (by first | omega | (simp; done) | (simp <;> omega)) _) | (refine Below.alloc ?_ (by first | omega | (simp; done) | (simp <;> omega)) _) | (refine Below.setCell ?_ (by first | omega | (simp; done) | (simp <;> omega)) _))) (Nat.le_refl _)) h5 (R5.out.below (by repeat (first | with_reducible exact Below.refl _ _ | (with_reducible exact HB.out) | (with_reducible refine Below.setCell ?_ (by first | omega | (simp; done) | (simp <;> omega)) _) | (with_reducible refine Below.alloc ?_ (by first | omega | (simp; done) | (simp <;> omega)) _) | (refine Below.alloc ?_ (by first | omega | (simp; done) | (simp <;> omega)) _) | (refine Below.setCell ?_ (by first | omega | (simp; done) | (simp <;> omega)) _))) (Nat.le_refl _)) h6 (R6.out.below (by repeat (first | with_reducible exact Below.refl _ _ | (with_reducible exact HB.out) | (with_reducible refine Below.setCell ?_ (by first | omega | (simp; done) | (simp <;> omega)) _) | (with_reducible refine Below.alloc ?_ (by first | omega | (simp; done) | (simp <;> omega)) _) | (refine Below.alloc ?_ (by first | omega | (simp; done) | (simp <;> omega)) _) | (refine Below.setCell ?_ (by first | omega | (simp; done) | (simp <;> omega)) _))) (Nat.le_refl _))).mono ?_
      rintro e w1 ⟨B3, B4, B5, B6, d3, g3, i3, d4, g4, i4, d5, g5, i5, d6, g6, i6, rfl, F3, F4, F5, F6, MS, hb⟩
      have KB1 := Lib.hid (KB0.out.new hb)
      have KR1 := Lib.hid (KR0.out.new hb)
      replace MS : Hid (SepPackage (w.heap.size + 2) w1.heap.size g3 i3 g4 i4 g5 i5 g6 i6) := Lib.hid (by have h := MS.out; unfold SepPackage at h ⊢; simp at h; omega)
      have MB := Lib.hid (SepPackage_bd MS.out)
      have hs1 := hb.size
      (try simp at hs1)
      replace HB := Lib.hid (show Below w.heap.size w w1 from Below.trans (by repeat (first | with_reducible exact Below.refl _ _ | (with_reducible exact HB.out) | (with_reducible refine Below.setCell ?_ (by first | omega | (simp; done) | (simp <;> omega)) _) | (with_reducible refine Below.alloc ?_ (by first | omega | (simp; done) | (simp <;> omega)) _) | (refine Below.alloc ?_ (by first | omega | (simp; done) | (simp <;> omega)) _) | (refine Below.setCell ?_ (by first | omega | (simp; done) | (simp <;> omega)) _))) (hb.mono (by first | omega | (simp; done) | (simp <;> omega))))
      have G3 := Lib.hid F3
      have G4 := Lib.hid F4
      have G5 := Lib.hid F5
      have G6 := Lib.hid F6
      have KO1 := Lib.hid (box_new w1 39 #[.int .i64 p0, .int .i64 p1, .int .i64 p2, .slice B3 n3 d3, .slice B4 n4 d4, .slice B5 n5 d5, .slice B6 n6 d6, .int .i64 0])
      have hz1 : w.heap.size + 1 < w1.heap.size := by omega
      clear hb F3 F4 F5 F6 KB0 KR0
      have HB2 := Lib.hid (show Below w.heap.size w (w1.alloc (.cells #[.int .i64 p0, .int .i64 p1, .int .i64 p2, .slice B3 n3 d3, .slice B4 n4 d4, .slice B5 n5 d5, .slice B6 n6 d6, .int .i64 0] 39)) from by repeat (first | with_reducible exact Below.refl _ _ | (with_reducible exact HB.out) | (with_reducible refine Below.setCell ?_ (by first | omega | (simp; done) | (simp <;> omega)) _) | (with_reducible refine Below.alloc ?_ (by first | omega | (simp; done) | (simp <;> omega)) _) | (refine Below.alloc ?_ (by first | omega | (simp; done) | (simp <;> omega)) _) | (refine Below.setCell ?_ (by first | omega | (simp; done) | (simp <;> omega)) _)))
      have CQ := Lib.hid (impl_IsPackageC p0 p1 p2 l3 A3 n3 c3 0 w.heap.size l4 A4 n4 c4 0 w.heap.size l5 A5 n5 c5 0 w.heap.size l6 A6 n6 c6 0 w.heap.size p7 (w1.alloc (.cells #[.int .i64 p0, .int .i64 p1, .int .i64 p2, .slice B3 n3 d3, .slice B4 n4 d4, .slice B5 n5 d5, .slice B6 n6 d6, .int .i64 0] 39)) h3 (R3.out.below HB2.out (Nat.le_refl _)) k3 b3 h4 (R4.out.below HB2.out (Nat.le_refl _)) k4 b4 h5 (R5.out.below HB2.out (Nat.le_refl _)) k5 b5 h6 (R6.out.below HB2.out (Nat.le_refl _)) k6 b6)
      rw [hq] at CQ
      have k0 := KB1.out.at_ (j := 0) rfl
      have k1 := KB1.out.at_ (j := 1) rfl
      have k2 := KB1.out.at_ (j := 2) rfl
      have k3 := KB1.out.at_ (j := 3) rfl
      have k4 := KB1.out.at_ (j := 4) rfl
      have k5 := KB1.out.at_ (j := 5) rfl
      have k6 := KB1.out.at_ (j := 6) rfl
      have k7 := KB1.out.at_ (j := 7) rfl
      have kf := fun j => KB1.out.free j
      have kz : w.heap.size < w1.heap.size := by omega
      go_wp2_with fail
      clear k0 k1 k2 k3 k4 k5 k6 k7 kf kz
      refine CQ.out.mono ?_
      rintro e w3 ⟨rfl, hb⟩
      have KO3 := Lib.hid (show BoxAt w3 w1.heap.size 39 #[.int .i64 p0, .int .i64 p1, .int .i64 p2, .slice B3 n3 d3, .slice B4 n4 d4, .slice B5 n5 d5, .slice B6 n6 d6, .int .i64 0] from KO1.out.new hb)
      have KB3 := Lib.hid ((KB1.out.alloc_ _).new hb)
      have KR3 := Lib.hid ((KR1.out.alloc_ _).new hb)
      have HB3 := Lib.hid (below_trans HB2.out hb (Nat.le_refl _))
      have hs3 := hb.size
      (try simp [World.setCell] at hs3)
      have P3 := Lib.hid ((G3.out.alloc _).new hb)
      have P4 := Lib.hid ((G4.out.alloc _).new hb)
      have P5 := Lib.hid ((G5.out.alloc _).new hb)
      have P6 := Lib.hid ((G6.out.alloc _).new hb)
      clear hb CQ KO1 KB1 KR1 G3 G4 G5 G6
      go_wp2_with fail
      have hg0 : w.heap.size ≤ w1.heap.size := by omega
      have hg1 : w1.heap.size ≠ w.heap.size := by omega
      have GO := KO3.out.drw
      refine wp_region_held_drew (S := fun w' => BoxAt w' w.heap.size 39 #[.int .i64 p0, .int .i64 p1, .int .i64 p2, .slice A3 n3 c3, .slice A4 n4 c4, .slice A5 n5 c5, .slice A6 n6 c6, .int .i64 p7] ∧ Chg w1.heap.size (w1.heap.size + 1) w3 w') (by kernel_rfl) ?_ (fun hHeld => ?_)
      · exact ⟨KB3.out.drw, (Chg.refl _ _ _).drewN 1⟩
      generalize World.drew w3 = x0 at hHeld GO ⊢
      refine wpAnyH_take (i := 0) (oi := ⟨some 11, _, _, _, _, _⟩) (v := ?_) rfl (by kernel_rfl) (by kernel_rfl) (by kernel_rfl) (fun _ _ _ h => h) (Or.inl ⟨by kernel_rfl, ?_⟩) hHeld ?_
      rotate_left
      focus (intro W hS; have c0_0 := (hS.1).at_ (j := 0) rfl; have c0_1 := (hS.1).at_ (j := 1) rfl; have c0_2 := (hS.1).at_ (j := 2) rfl; have c0_3 := (hS.1).at_ (j := 3) rfl; have c0_4 := (hS.1).at_ (j := 4) rfl; have c0_5 := (hS.1).at_ (j := 5) rfl; have c0_6 := (hS.1).at_ (j := 6) rfl; have c0_7 := (hS.1).at_ (j := 7) rfl; clear hS; first | (go_simp; done) | (go_simp; with_reducible rfl))
      try simp only [Act.put, List.setIfInBounds_toArray, List.set_cons_zero, List.set_cons_succ]
      refine wpAnyH_take (i := 2) (oi := ⟨some 13, _, _, _, _, _⟩) (v := ?_) rfl (by kernel_rfl) (by kernel_rfl) (by kernel_rfl) (fun _ _ _ h => h) (Or.inl ⟨by kernel_rfl, ?_⟩) hHeld ?_
      rotate_left
      focus (intro W hS; have c0_0 := (hS.1).at_ (j := 0) rfl; have c0_1 := (hS.1).at_ (j := 1) rfl; have c0_2 := (hS.1).at_ (j := 2) rfl; have c0_3 := (hS.1).at_ (j := 3) rfl; have c0_4 := (hS.1).at_ (j := 4) rfl; have c0_5 := (hS.1).at_ (j := 5) rfl; have c0_6 := (hS.1).at_ (j := 6) rfl; have c0_7 := (hS.1).at_ (j := 7) rfl; clear hS; first | (go_simp; done) | (go_simp; with_reducible rfl))
      try simp only [Act.put, List.setIfInBounds_toArray, List.set_cons_zero, List.set_cons_succ]
      refine wpAnyH_ready (rs := [1]) (by kernel_rfl) (by simp) ?_
      refine AllReadyH.cons (o := ⟨some 12, _, _, _, _, _⟩) rfl (fun K hK => ?_) AllReadyH.nil
      go_simp
      refine Calls.mono (impl_sealer_yes a0 _ (pow10_below HT.out (HB3.out.trans (hHeld.2.below (.inl hg0) HB3.out.size))) WF.out hv) ?_
      rintro e x1 ⟨Bk, rfl, GK, hb1⟩
      replace GO := GO.new hb1
      refine hK.out _ _ ⟨hHeld.1.new hb1, Chg.trans hHeld.2 (chg_of_new hb1)⟩ (fun hHeld' => ?_)
      clear hK K hHeld hb1
      have hHeld := hHeld'
      clear hHeld'
      try simp only [Act.put, List.setIfInBounds_toArray, List.set_cons_zero, List.set_cons_succ]
      refine wpAnyH_ready (rs := [3]) (by kernel_rfl) (by simp) ?_
      refine AllReadyH.cons (o := ⟨some 14, _, _, _, _, _⟩) rfl (fun K hK => ?_) AllReadyH.nil
      go_simp
      refine Calls.mono (CI.out _ (HB3.out.trans (hHeld.2.below (.inl hg0) HB3.out.size))) ?_
      rintro e x2 ⟨AI, cI, rfl, GI, hb1⟩
      replace GO := GO.new hb1
      replace GK := GK.new hb1
      refine hK.out _ _ ⟨hHeld.1.new hb1, Chg.trans hHeld.2 (chg_of_new hb1)⟩ (fun hHeld' => ?_)
      clear hK K hHeld hb1
      have hHeld := hHeld'
      clear hHeld'
      try simp only [Act.put, List.setIfInBounds_toArray, List.set_cons_zero, List.set_cons_succ]
      refine wpAnyH_ready (rs := [4]) (by kernel_rfl) (by simp) ?_
      refine AllReadyH.cons (o := ⟨some 15, _, _, _, _, _⟩) rfl (fun K hK => ?_) AllReadyH.nil
      go_simp
      refine Calls.mono (impl_sealer2 a0 X AI nx cI _ _ Bk _ GK WF.out (by omega) GI.rd HXb) ?_
      rintro e x3 ⟨rfl, hb1⟩
      replace GO := GO.new hb1
      replace GK := GK.new hb1
      replace GI := GI.new hb1
      refine hK.out _ _ ⟨hHeld.1.new hb1, Chg.trans hHeld.2 (chg_of_new hb1)⟩ (fun hHeld' => ?_)
      clear hK K hHeld hb1
      have hHeld := hHeld'
      clear hHeld'
      try simp only [Act.put, List.setIfInBounds_toArray, List.set_cons_zero, List.set_cons_succ]
      refine wpAnyH_take (i := 5) (oi := ⟨some 16, _, _, _, _, _⟩) (v := ?_) rfl (by kernel_rfl) (by kernel_rfl) (by kernel_rfl) (fun _ _ _ h => h) (Or.inl ⟨by kernel_rfl, ?_⟩) hHeld ?_
      rotate_left
      focus (intro W hS; have c0_0 := (hS.1).at_ (j := 0) rfl; have c0_1 := (hS.1).at_ (j := 1) rfl; have c0_2 := (hS.1).at_ (j := 2) rfl; have c0_3 := (hS.1).at_ (j := 3) rfl; have c0_4 := (hS.1).at_ (j := 4) rfl; have c0_5 := (hS.1).at_ (j := 5) rfl; have c0_6 := (hS.1).at_ (j := 6) rfl; have c0_7 := (hS.1).at_ (j := 7) rfl; clear hS; first | (go_simp; done) | (go_simp; with_reducible rfl))
      try simp only [Act.put, List.setIfInBounds_toArray, List.set_cons_zero, List.set_cons_succ]
      refine wpAnyH_ready (rs := [6]) (by kernel_rfl) (by simp) ?_
      refine AllReadyH.cons (o := ⟨none, _, _, _, _, _⟩) rfl (fun K hK => ?_) AllReadyH.nil
      have c7 := GO.at_ (j := 7) rfl
      have f7 := GO.free 7
      have hlo := GO.lt
      go_simp
      clear c7 f7
      have GO2 := pk_put GO 7 (.int .i64 (mKHash a0 X))
      clear GO
      refine hK.out _ _ ⟨pk_past hHeld.1 (by omega), hHeld.2.set_ (.inl ⟨Nat.le_refl _, Nat.lt_succ_self _⟩) _⟩ (fun hHeld' => ?_)
      clear hK K hHeld
      have hHeld := hHeld'
      clear hHeld'
      try simp only [Act.put, List.setIfInBounds_toArray, List.set_cons_zero, List.set_cons_succ]
      generalize World.setCell x3 ⟨w1.heap.size, 7, none⟩ (.int .i64 (mKHash a0 X)) = wf at hHeld GO2 ⊢
      refine wpAnyH_done (by kernel_rfl) ?_ _
      have KOf := Lib.hid (show BoxAt wf w1.heap.size 39 #[.int .i64 p0, .int .i64 p1, .int .i64 p2, .slice B3 n3 d3, .slice B4 n4 d4, .slice B5 n5 d5, .slice B6 n6 d6, .int .i64 (mKHash a0 X)] from GO2)
      have KRf := Lib.hid (KR3.out.chg hHeld.2 (by omega))
      have HBf := Lib.hid (HB3.out.trans (hHeld.2.below (.inl hg0) HB3.out.size))
      have HSz := Lib.hid (show w1.heap.size ≤ wf.heap.size from Nat.le_trans (by omega) hHeld.2.size)
      have G3 := Lib.hid (P3.out.chg hHeld.2 (.inl (by have h := MB.out; omega)))
      have G4 := Lib.hid (P4.out.chg hHeld.2 (.inl (by have h := MB.out; omega)))
      have G5 := Lib.hid (P5.out.chg hHeld.2 (.inl (by have h := MB.out; omega)))
      have G6 := Lib.hid (P6.out.chg hHeld.2 (.inl (by have h := MB.out; omega)))
      clear GO2 hHeld KO3 KR3 HB3 P3 P4 P5 P6 KB3 CI
      have k0 := KOf.out.at_ (j := 0) rfl
      have q0 := KRf.out.at_ (j := 0) rfl
      have k1 := KOf.out.at_ (j := 1) rfl
      have q1 := KRf.out.at_ (j := 1) rfl
      have k2 := KOf.out.at_ (j := 2) rfl
      have q2 := KRf.out.at_ (j := 2) rfl
      have k3 := KOf.out.at_ (j := 3) rfl
      have q3 := KRf.out.at_ (j := 3) rfl
      have k4 := KOf.out.at_ (j := 4) rfl
      have q4 := KRf.out.at_ (j := 4) rfl
      have k5 := KOf.out.at_ (j := 5) rfl
      have q5 := KRf.out.at_ (j := 5) rfl
      have k6 := KOf.out.at_ (j := 6) rfl
      have q6 := KRf.out.at_ (j := 6) rfl
      have k7 := KOf.out.at_ (j := 7) rfl
      have q7 := KRf.out.at_ (j := 7) rfl
      have qf := fun j => KRf.out.free j
      have kf := fun j => KOf.out.free j
      have hol := KOf.out.lt
      have hrl := KRf.out.lt
      go_wp2_with fail
      have Z0 := KRf.out
      replace Z0 := (show BoxAt _ (w.heap.size + 1) 39 #[.int .i64 p0, .int .i64 0, .int .i64 0, .slice none 0 0, .slice none 0 0, .slice none 0 0, .slice none 0 0, .int .i64 0] from pk_put Z0 0 (.int .i64 p0))
      replace Z0 := (show BoxAt _ (w.heap.size + 1) 39 #[.int .i64 p0, .int .i64 p1, .int .i64 0, .slice none 0 0, .slice none 0 0, .slice none 0 0, .slice none 0 0, .int .i64 0] from pk_put Z0 1 (.int .i64 p1))
      replace Z0 := (show BoxAt _ (w.heap.size + 1) 39 #[.int .i64 p0, .int .i64 p1, .int .i64 p2, .slice none 0 0, .slice none 0 0, .slice none 0 0, .slice none 0 0, .int .i64 0] from pk_put Z0 2 (.int .i64 p2))
      replace Z0 := (show BoxAt _ (w.heap.size + 1) 39 #[.int .i64 p0, .int .i64 p1, .int .i64 p2, .slice B3 n3 d3, .slice none 0 0, .slice none 0 0, .slice none 0 0, .int .i64 0] from pk_put Z0 3 (.slice B3 n3 d3))
      replace Z0 := (show BoxAt _ (w.heap.size + 1) 39 #[.int .i64 p0, .int .i64 p1, .int .i64 p2, .slice B3 n3 d3, .slice B4 n4 d4, .slice none 0 0, .slice none 0 0, .int .i64 0] from pk_put Z0 4 (.slice B4 n4 d4))
      replace Z0 := (show BoxAt _ (w.heap.size + 1) 39 #[.int .i64 p0, .int .i64 p1, .int .i64 p2, .slice B3 n3 d3, .slice B4 n4 d4, .slice B5 n5 d5, .slice none 0 0, .int .i64 0] from pk_put Z0 5 (.slice B5 n5 d5))
      replace Z0 := (show BoxAt _ (w.heap.size + 1) 39 #[.int .i64 p0, .int .i64 p1, .int .i64 p2, .slice B3 n3 d3, .slice B4 n4 d4, .slice B5 n5 d5, .slice B6 n6 d6, .int .i64 0] from pk_put Z0 6 (.slice B6 n6 d6))
      replace Z0 := (show BoxAt _ (w.heap.size + 1) 39 #[.int .i64 p0, .int .i64 p1, .int .i64 p2, .slice B3 n3 d3, .slice B4 n4 d4, .slice B5 n5 d5, .slice B6 n6 d6, .int .i64 (mKHash a0 X)] from pk_put Z0 7 (.int .i64 (mKHash a0 X)))
      have KF := Z0
      have f0 := KF.at_ (j := 0) rfl
      have f1 := KF.at_ (j := 1) rfl
      have f2 := KF.at_ (j := 2) rfl
      have f3 := KF.at_ (j := 3) rfl
      have f4 := KF.at_ (j := 4) rfl
      have f5 := KF.at_ (j := 5) rfl
      have f6 := KF.at_ (j := 6) rfl
      have f7 := KF.at_ (j := 7) rfl
      rw [HE.out]
      exact bodyPost_ret (v := .agg #[.int .i64 p0, .int .i64 p1, .int .i64 p2, .slice B3 n3 d3, .slice B4 n4 d4, .slice B5 n5 d5, .slice B6 n6 d6, .int .i64 (mKHash a0 X)]) (by simp [results, Tryz.results15, go_sem, f0, f1, f2, f3, f4, f5, f6, f7]) rfl
        ⟨B3, B4, B5, B6, d3, g3, i3, d4, g4, i4, d5, g5, i5, d6, g6, i6, rfl, (by repeat (first | with_reducible exact G3.out | (with_reducible refine Fr.put ?_ (by have h := MB.out; first | omega | (simp; done) | (simp <;> omega)) _) | (with_reducible refine Fr.alloc ?_ _))), (by repeat (first | with_reducible exact G4.out | (with_reducible refine Fr.put ?_ (by have h := MB.out; first | omega | (simp; done) | (simp <;> omega)) _) | (with_reducible refine Fr.alloc ?_ _))), (by repeat (first | with_reducible exact G5.out | (with_reducible refine Fr.put ?_ (by have h := MB.out; first | omega | (simp; done) | (simp <;> omega)) _) | (with_reducible refine Fr.alloc ?_ _))), (by repeat (first | with_reducible exact G6.out | (with_reducible refine Fr.put ?_ (by have h := MB.out; first | omega | (simp; done) | (simp <;> omega)) _) | (with_reducible refine Fr.alloc ?_ _))),
          Lib.hid (by have h := MS.out; have hz := HSz.out; unfold SepPackage at h ⊢; simp at h ⊢; omega), by repeat (first | with_reducible exact Below.refl _ _ | (with_reducible exact HBf.out) | (with_reducible refine Below.setCell ?_ (by first | omega | (simp; done) | (simp <;> omega)) _) | (with_reducible refine Below.alloc ?_ (by first | omega | (simp; done) | (simp <;> omega)) _) | (refine Below.alloc ?_ (by first | omega | (simp; done) | (simp <;> omega)) _) | (refine Below.setCell ?_ (by first | omega | (simp; done) | (simp <;> omega)) _))⟩
set_option maxHeartbeats 16000000 in
theorem spec_SealPackage (a0 : Int) (p0 p1 p2 : Int) (l3 : List TGrant) (A3 : Option Addr) (n3 c3 lo3 hi3 : Nat) (l4 : List TFlow) (A4 : Option Addr) (n4 c4 lo4 hi4 : Nat) (l5 : List TRule) (A5 : Option Addr) (n5 c5 lo5 hi5 : Nat) (l6 : List TOp) (A6 : Option Addr) (n6 c6 lo6 hi6 : Nat) (p7 : Int) (w : World) (hT : Pow10 w) (wf0 : (Lit.int .i64 a0).wf = true) (h3 : n3 ≤ 1048576) (r3 : Rd w lo3 hi3 7 A3 n3 (cGrant l3)) (k3 : n3 ≤ c3) (b3 : Hid (cGrantOk l3)) (h4 : n4 ≤ 1048576) (r4 : Rd w lo4 hi4 3 A4 n4 (cFlow l4)) (k4 : n4 ≤ c4) (b4 : Hid (cFlowOk l4)) (h5 : n5 ≤ 1048576) (r5 : Rd w lo5 hi5 8 A5 n5 (cRule l5)) (k5 : n5 ≤ c5) (b5 : Hid (cRuleOk l5)) (h6 : n6 ≤ 1048576) (r6 : Rd w lo6 hi6 4 A6 n6 (cOp l6)) (k6 : n6 ≤ c6) (b6 : Hid (cOpOk l6)) :
    Calls Tryz.prog 14 #[.int .i64 a0, .agg #[.int .i64 p0, .int .i64 p1, .int .i64 p2, .slice A3 n3 c3, .slice A4 n4 c4, .slice A5 n5 c5, .slice A6 n6 c6, .int .i64 p7]] w (MakesPackage p0 p1 p2 l3.length l3 l4.length l4 l5.length l5 l6.length l6 (mSealPk a0 p0 p1 p2 l3 l4 l5 l6) w) := by
  have HL3 := rd_len TGrant.len r3 (by decide)
  have HL4 := rd_len TFlow.len r4 (by decide)
  have HL5 := rd_len TRule.len r5 (by decide)
  have HL6 := rd_len TOp.len r6 (by decide)
  rw [HL3, HL4, HL5, HL6]
  have HT := Lib.hid hT
  have R3 := Lib.hid (r3.old (by decide))
  have R4 := Lib.hid (r4.old (by decide))
  have R5 := Lib.hid (r5.old (by decide))
  have R6 := Lib.hid (r6.old (by decide))
  have WF := Lib.hid wf0
  have HB := Lib.hid (Below.refl w.heap.size w)
  have KB0 := Lib.hid ((box_new w 39 #[.int .i64 p0, .int .i64 p1, .int .i64 p2, .slice A3 n3 c3, .slice A4 n4 c4, .slice A5 n5 c5, .slice A6 n6 c6, .int .i64 p7]).alloc_ (.cells #[.int .i64 0, .int .i64 0, .int .i64 0, .slice none 0 0, .slice none 0 0, .slice none 0 0, .slice none 0 0, .int .i64 0] 39))
  have KR0 : Hid (BoxAt ((w.alloc (.cells #[.int .i64 p0, .int .i64 p1, .int .i64 p2, .slice A3 n3 c3, .slice A4 n4 c4, .slice A5 n5 c5, .slice A6 n6 c6, .int .i64 p7] 39)).alloc (.cells #[.int .i64 0, .int .i64 0, .int .i64 0, .slice none 0 0, .slice none 0 0, .slice none 0 0, .slice none 0 0, .int .i64 0] 39)) (w.heap.size + 1) 39 #[.int .i64 0, .int .i64 0, .int .i64 0, .slice none 0 0, .slice none 0 0, .slice none 0 0, .slice none 0 0, .int .i64 0]) := Lib.hid (by simpa using box_new (w.alloc (.cells #[.int .i64 p0, .int .i64 p1, .int .i64 p2, .slice A3 n3 c3, .slice A4 n4 c4, .slice A5 n5 c5, .slice A6 n6 c6, .int .i64 p7] 39)) 39 #[.int .i64 0, .int .i64 0, .int .i64 0, .slice none 0 0, .slice none 0 0, .slice none 0 0, .slice none 0 0, .int .i64 0])
  clear r3 r4 r5 r6 hT wf0 HL3 HL4 HL5 HL6
  cases hv : mValid a0 with
  | false =>
    have HE := Lib.hid (show mSealPk a0 p0 p1 p2 l3 l4 l5 l6 = 0 by unfold mSealPk; split; rw [if_neg (by rw [hv]; decide)]; rfl)
    go_enter Tryz.func14, Tryz.ntmps14
    go_wp2_with fail
    refine (spec_l26Copy p0 p1 p2 l3 A3 n3 c3 0 w.heap.size l4 A4 n4 c4 0 w.heap.size l5 A5 n5 c5 0 w.heap.size l6 A6 n6 c6 0 w.heap.size p7 _ h3 (R3.out.below (by repeat (first | with_reducible exact Below.refl _ _ | (with_reducible exact HB.out) | (with_reducible refine Below.setCell ?_ (by first | omega | (simp; done) | (simp <;> omega)) _) | (with_reducible refine Below.alloc ?_ (by first | omega | (simp; done) | (simp <;> omega)) _) | (refine Below.alloc ?_ (by first | omega | (simp; done) | (simp <;> omega)) _) | (refine Below.setCell ?_ (by first | omega | (simp; done) | (simp <;> omega)) _))) (Nat.le_refl _)) h4 (R4.out.below (by repeat (first | with_reducible exact Below.refl _ _ | (with_reducible exact HB.out) | (with_reducible refine Below.setCell ?_ (by first | omega | (simp; done) | (simp <;> omega)) _) | (with_reducible refine Below.alloc ?_ (by first | omega | (simp; done) | (simp <;> omega)) _) | (refine Below.alloc ?_ (by first | omega | (simp; done) | (simp <;> omega)) _) | (refine Below.setCell ?_ (by first | omega | (simp; done) | (simp <;> omega)) _))) (Nat.le_refl _)) h5 (R5.out.below (by repeat (first | with_reducible exact Below.refl _ _ | (with_reducible exact HB.out) | (with_reducible refine Below.setCell ?_ (by first | omega | (simp; done) | (simp <;> omega)) _) | (with_reducible refine Below.alloc ?_ (by first | omega | (simp; done) | (simp <;> omega)) _) | (refine Below.alloc ?_ (by first | omega | (simp; done) | (simp <;> omega)) _) | (refine Below.setCell ?_ (by first | omega | (simp; done) | (simp <;> omega)) _))) (Nat.le_refl _)) h6 (R6.out.below (by repeat (first | with_reducible exact Below.refl _ _ | (with_reducible exact HB.out) | (with_reducible refine Below.setCell ?_ (by first | omega | (simp; done) | (simp <;> omega)) _) | (with_reducible refine Below.alloc ?_ (by first | omega | (simp; done) | (simp <;> omega)) _) | (refine Below.alloc ?_ (by first | omega | (simp; done) | (simp <;> omega)) _) | (refine Below.setCell ?_ (by first | omega | (simp; done) | (simp <;> omega)) _))) (Nat.le_refl _))).mono ?_
    rintro e w1 ⟨B3, B4, B5, B6, d3, g3, i3, d4, g4, i4, d5, g5, i5, d6, g6, i6, rfl, F3, F4, F5, F6, MS, hb⟩
    have KB1 := Lib.hid (KB0.out.new hb)
    have KR1 := Lib.hid (KR0.out.new hb)
    replace MS : Hid (SepPackage (w.heap.size + 2) w1.heap.size g3 i3 g4 i4 g5 i5 g6 i6) := Lib.hid (by have h := MS.out; unfold SepPackage at h ⊢; simp at h; omega)
    have MB := Lib.hid (SepPackage_bd MS.out)
    have hs1 := hb.size
    (try simp at hs1)
    replace HB := Lib.hid (show Below w.heap.size w w1 from Below.trans (by repeat (first | with_reducible exact Below.refl _ _ | (with_reducible exact HB.out) | (with_reducible refine Below.setCell ?_ (by first | omega | (simp; done) | (simp <;> omega)) _) | (with_reducible refine Below.alloc ?_ (by first | omega | (simp; done) | (simp <;> omega)) _) | (refine Below.alloc ?_ (by first | omega | (simp; done) | (simp <;> omega)) _) | (refine Below.setCell ?_ (by first | omega | (simp; done) | (simp <;> omega)) _))) (hb.mono (by first | omega | (simp; done) | (simp <;> omega))))
    have G3 := Lib.hid F3
    have G4 := Lib.hid F4
    have G5 := Lib.hid F5
    have G6 := Lib.hid F6
    have KO1 := Lib.hid (box_new w1 39 #[.int .i64 p0, .int .i64 p1, .int .i64 p2, .slice B3 n3 d3, .slice B4 n4 d4, .slice B5 n5 d5, .slice B6 n6 d6, .int .i64 0])
    have hz1 : w.heap.size + 1 < w1.heap.size := by omega
    clear hb F3 F4 F5 F6 KB0 KR0
    have HB2 := Lib.hid (show Below w.heap.size w (w1.alloc (.cells #[.int .i64 p0, .int .i64 p1, .int .i64 p2, .slice B3 n3 d3, .slice B4 n4 d4, .slice B5 n5 d5, .slice B6 n6 d6, .int .i64 0] 39)) from by repeat (first | with_reducible exact Below.refl _ _ | (with_reducible exact HB.out) | (with_reducible refine Below.setCell ?_ (by first | omega | (simp; done) | (simp <;> omega)) _) | (with_reducible refine Below.alloc ?_ (by first | omega | (simp; done) | (simp <;> omega)) _) | (refine Below.alloc ?_ (by first | omega | (simp; done) | (simp <;> omega)) _) | (refine Below.setCell ?_ (by first | omega | (simp; done) | (simp <;> omega)) _)))
    have CQ := Lib.hid (spec_IsValidKey a0 (w1.alloc (.cells #[.int .i64 p0, .int .i64 p1, .int .i64 p2, .slice B3 n3 d3, .slice B4 n4 d4, .slice B5 n5 d5, .slice B6 n6 d6, .int .i64 0] 39)) (pow10_below HT.out HB2.out) WF.out)
    rw [hv] at CQ
    have k0 := KB1.out.at_ (j := 0) rfl
    have k1 := KB1.out.at_ (j := 1) rfl
    have k2 := KB1.out.at_ (j := 2) rfl
    have k3 := KB1.out.at_ (j := 3) rfl
    have k4 := KB1.out.at_ (j := 4) rfl
    have k5 := KB1.out.at_ (j := 5) rfl
    have k6 := KB1.out.at_ (j := 6) rfl
    have k7 := KB1.out.at_ (j := 7) rfl
    have kf := fun j => KB1.out.free j
    have kz : w.heap.size < w1.heap.size := by omega
    go_wp2_with fail
    clear k0 k1 k2 k3 k4 k5 k6 k7 kf kz
    refine CQ.out.mono ?_
    rintro e w3 ⟨rfl, hb⟩
    have KO3 := Lib.hid (show BoxAt w3 w1.heap.size 39 #[.int .i64 p0, .int .i64 p1, .int .i64 p2, .slice B3 n3 d3, .slice B4 n4 d4, .slice B5 n5 d5, .slice B6 n6 d6, .int .i64 0] from KO1.out.new hb)
    have KB3 := Lib.hid ((KB1.out.alloc_ _).new hb)
    have KR3 := Lib.hid ((KR1.out.alloc_ _).new hb)
    have HB3 := Lib.hid (below_trans HB2.out hb (Nat.le_refl _))
    have hs3 := hb.size
    (try simp [World.setCell] at hs3)
    have P3 := Lib.hid ((G3.out.alloc _).new hb)
    have P4 := Lib.hid ((G4.out.alloc _).new hb)
    have P5 := Lib.hid ((G5.out.alloc _).new hb)
    have P6 := Lib.hid ((G6.out.alloc _).new hb)
    clear hb CQ KO1 KB1 KR1 G3 G4 G5 G6
    have KOf := KO3
    have KRf := KR3
    have HBf := HB3
    have HSz := Lib.hid (show w1.heap.size ≤ w3.heap.size by omega)
    have G3 := P3
    have G4 := P4
    have G5 := P5
    have G6 := P6
    clear KO3 KR3 HB3 P3 P4 P5 P6 KB3
    have k0 := KOf.out.at_ (j := 0) rfl
    have q0 := KRf.out.at_ (j := 0) rfl
    have k1 := KOf.out.at_ (j := 1) rfl
    have q1 := KRf.out.at_ (j := 1) rfl
    have k2 := KOf.out.at_ (j := 2) rfl
    have q2 := KRf.out.at_ (j := 2) rfl
    have k3 := KOf.out.at_ (j := 3) rfl
    have q3 := KRf.out.at_ (j := 3) rfl
    have k4 := KOf.out.at_ (j := 4) rfl
    have q4 := KRf.out.at_ (j := 4) rfl
    have k5 := KOf.out.at_ (j := 5) rfl
    have q5 := KRf.out.at_ (j := 5) rfl
    have k6 := KOf.out.at_ (j := 6) rfl
    have q6 := KRf.out.at_ (j := 6) rfl
    have k7 := KOf.out.at_ (j := 7) rfl
    have q7 := KRf.out.at_ (j := 7) rfl
    have qf := fun j => KRf.out.free j
    have kf := fun j => KOf.out.free j
    have hol := KOf.out.lt
    have hrl := KRf.out.lt
    go_wp2_with fail
    have Z0 := KRf.out
    replace Z0 := (show BoxAt _ (w.heap.size + 1) 39 #[.int .i64 p0, .int .i64 0, .int .i64 0, .slice none 0 0, .slice none 0 0, .slice none 0 0, .slice none 0 0, .int .i64 0] from pk_put Z0 0 (.int .i64 p0))
    replace Z0 := (show BoxAt _ (w.heap.size + 1) 39 #[.int .i64 p0, .int .i64 p1, .int .i64 0, .slice none 0 0, .slice none 0 0, .slice none 0 0, .slice none 0 0, .int .i64 0] from pk_put Z0 1 (.int .i64 p1))
    replace Z0 := (show BoxAt _ (w.heap.size + 1) 39 #[.int .i64 p0, .int .i64 p1, .int .i64 p2, .slice none 0 0, .slice none 0 0, .slice none 0 0, .slice none 0 0, .int .i64 0] from pk_put Z0 2 (.int .i64 p2))
    replace Z0 := (show BoxAt _ (w.heap.size + 1) 39 #[.int .i64 p0, .int .i64 p1, .int .i64 p2, .slice B3 n3 d3, .slice none 0 0, .slice none 0 0, .slice none 0 0, .int .i64 0] from pk_put Z0 3 (.slice B3 n3 d3))
    replace Z0 := (show BoxAt _ (w.heap.size + 1) 39 #[.int .i64 p0, .int .i64 p1, .int .i64 p2, .slice B3 n3 d3, .slice B4 n4 d4, .slice none 0 0, .slice none 0 0, .int .i64 0] from pk_put Z0 4 (.slice B4 n4 d4))
    replace Z0 := (show BoxAt _ (w.heap.size + 1) 39 #[.int .i64 p0, .int .i64 p1, .int .i64 p2, .slice B3 n3 d3, .slice B4 n4 d4, .slice B5 n5 d5, .slice none 0 0, .int .i64 0] from pk_put Z0 5 (.slice B5 n5 d5))
    replace Z0 := (show BoxAt _ (w.heap.size + 1) 39 #[.int .i64 p0, .int .i64 p1, .int .i64 p2, .slice B3 n3 d3, .slice B4 n4 d4, .slice B5 n5 d5, .slice B6 n6 d6, .int .i64 0] from pk_put Z0 6 (.slice B6 n6 d6))
    replace Z0 := (show BoxAt _ (w.heap.size + 1) 39 #[.int .i64 p0, .int .i64 p1, .int .i64 p2, .slice B3 n3 d3, .slice B4 n4 d4, .slice B5 n5 d5, .slice B6 n6 d6, .int .i64 0] from pk_put Z0 7 (.int .i64 0))
    have KF := Z0
    have f0 := KF.at_ (j := 0) rfl
    have f1 := KF.at_ (j := 1) rfl
    have f2 := KF.at_ (j := 2) rfl
    have f3 := KF.at_ (j := 3) rfl
    have f4 := KF.at_ (j := 4) rfl
    have f5 := KF.at_ (j := 5) rfl
    have f6 := KF.at_ (j := 6) rfl
    have f7 := KF.at_ (j := 7) rfl
    rw [HE.out]
    exact bodyPost_ret (v := .agg #[.int .i64 p0, .int .i64 p1, .int .i64 p2, .slice B3 n3 d3, .slice B4 n4 d4, .slice B5 n5 d5, .slice B6 n6 d6, .int .i64 0]) (by simp [results, Tryz.results14, go_sem, f0, f1, f2, f3, f4, f5, f6, f7]) rfl
      ⟨B3, B4, B5, B6, d3, g3, i3, d4, g4, i4, d5, g5, i5, d6, g6, i6, rfl, (by repeat (first | with_reducible exact G3.out | (with_reducible refine Fr.put ?_ (by have h := MB.out; first | omega | (simp; done) | (simp <;> omega)) _) | (with_reducible refine Fr.alloc ?_ _))), (by repeat (first | with_reducible exact G4.out | (with_reducible refine Fr.put ?_ (by have h := MB.out; first | omega | (simp; done) | (simp <;> omega)) _) | (with_reducible refine Fr.alloc ?_ _))), (by repeat (first | with_reducible exact G5.out | (with_reducible refine Fr.put ?_ (by have h := MB.out; first | omega | (simp; done) | (simp <;> omega)) _) | (with_reducible refine Fr.alloc ?_ _))), (by repeat (first | with_reducible exact G6.out | (with_reducible refine Fr.put ?_ (by have h := MB.out; first | omega | (simp; done) | (simp <;> omega)) _) | (with_reducible refine Fr.alloc ?_ _))),
        Lib.hid (by have h := MS.out; have hz := HSz.out; unfold SepPackage at h ⊢; simp at h ⊢; omega), by repeat (first | with_reducible exact Below.refl _ _ | (with_reducible exact HBf.out) | (with_reducible refine Below.setCell ?_ (by first | omega | (simp; done) | (simp <;> omega)) _) | (with_reducible refine Below.alloc ?_ (by first | omega | (simp; done) | (simp <;> omega)) _) | (refine Below.alloc ?_ (by first | omega | (simp; done) | (simp <;> omega)) _) | (refine Below.setCell ?_ (by first | omega | (simp; done) | (simp <;> omega)) _))⟩
  | true =>
    cases hq : mIsPack p0 p1 p2 l3 l4 l5 l6 with
    | false =>
      have HE := Lib.hid (show mSealPk a0 p0 p1 p2 l3 l4 l5 l6 = 0 by unfold mSealPk; rw [if_neg (by rw [hq]; decide)])
      go_enter Tryz.func14, Tryz.ntmps14
      go_wp2_with fail
      refine (spec_l26Copy p0 p1 p2 l3 A3 n3 c3 0 w.heap.size l4 A4 n4 c4 0 w.heap.size l5 A5 n5 c5 0 w.heap.size l6 A6 n6 c6 0 w.heap.size p7 _ h3 (R3.out.below (by repeat (first | with_reducible exact Below.refl _ _ | (with_reducible exact HB.out) | (with_reducible refine Below.setCell ?_ (by first | omega | (simp; done) | (simp <;> omega)) _) | (with_reducible refine Below.alloc ?_ (by first | omega | (simp; done) | (simp <;> omega)) _) | (refine Below.alloc ?_ (by first | omega | (simp; done) | (simp <;> omega)) _) | (refine Below.setCell ?_ (by first | omega | (simp; done) | (simp <;> omega)) _))) (Nat.le_refl _)) h4 (R4.out.below (by repeat (first | with_reducible exact Below.refl _ _ | (with_reducible exact HB.out) | (with_reducible refine Below.setCell ?_ (by first | omega | (simp; done) | (simp <;> omega)) _) | (with_reducible refine Below.alloc ?_ (by first | omega | (simp; done) | (simp <;> omega)) _) | (refine Below.alloc ?_ (by first | omega | (simp; done) | (simp <;> omega)) _) | (refine Below.setCell ?_ (by first | omega | (simp; done) | (simp <;> omega)) _))) (Nat.le_refl _)) h5 (R5.out.below (by repeat (first | with_reducible exact Below.refl _ _ | (with_reducible exact HB.out) | (with_reducible refine Below.setCell ?_ (by first | omega | (simp; done) | (simp <;> omega)) _) | (with_reducible refine Below.alloc ?_ (by first | omega | (simp; done) | (simp <;> omega)) _) | (refine Below.alloc ?_ (by first | omega | (simp; done) | (simp <;> omega)) _) | (refine Below.setCell ?_ (by first | omega | (simp; done) | (simp <;> omega)) _))) (Nat.le_refl _)) h6 (R6.out.below (by repeat (first | with_reducible exact Below.refl _ _ | (with_reducible exact HB.out) | (with_reducible refine Below.setCell ?_ (by first | omega | (simp; done) | (simp <;> omega)) _) | (with_reducible refine Below.alloc ?_ (by first | omega | (simp; done) | (simp <;> omega)) _) | (refine Below.alloc ?_ (by first | omega | (simp; done) | (simp <;> omega)) _) | (refine Below.setCell ?_ (by first | omega | (simp; done) | (simp <;> omega)) _))) (Nat.le_refl _))).mono ?_
      rintro e w1 ⟨B3, B4, B5, B6, d3, g3, i3, d4, g4, i4, d5, g5, i5, d6, g6, i6, rfl, F3, F4, F5, F6, MS, hb⟩
      have KB1 := Lib.hid (KB0.out.new hb)
      have KR1 := Lib.hid (KR0.out.new hb)
      replace MS : Hid (SepPackage (w.heap.size + 2) w1.heap.size g3 i3 g4 i4 g5 i5 g6 i6) := Lib.hid (by have h := MS.out; unfold SepPackage at h ⊢; simp at h; omega)
      have MB := Lib.hid (SepPackage_bd MS.out)
      have hs1 := hb.size
      (try simp at hs1)
      replace HB := Lib.hid (show Below w.heap.size w w1 from Below.trans (by repeat (first | with_reducible exact Below.refl _ _ | (with_reducible exact HB.out) | (with_reducible refine Below.setCell ?_ (by first | omega | (simp; done) | (simp <;> omega)) _) | (with_reducible refine Below.alloc ?_ (by first | omega | (simp; done) | (simp <;> omega)) _) | (refine Below.alloc ?_ (by first | omega | (simp; done) | (simp <;> omega)) _) | (refine Below.setCell ?_ (by first | omega | (simp; done) | (simp <;> omega)) _))) (hb.mono (by first | omega | (simp; done) | (simp <;> omega))))
      have G3 := Lib.hid F3
      have G4 := Lib.hid F4
      have G5 := Lib.hid F5
      have G6 := Lib.hid F6
      have KO1 := Lib.hid (box_new w1 39 #[.int .i64 p0, .int .i64 p1, .int .i64 p2, .slice B3 n3 d3, .slice B4 n4 d4, .slice B5 n5 d5, .slice B6 n6 d6, .int .i64 0])
      have hz1 : w.heap.size + 1 < w1.heap.size := by omega
      clear hb F3 F4 F5 F6 KB0 KR0
      have HB2 := Lib.hid (show Below w.heap.size w (w1.alloc (.cells #[.int .i64 p0, .int .i64 p1, .int .i64 p2, .slice B3 n3 d3, .slice B4 n4 d4, .slice B5 n5 d5, .slice B6 n6 d6, .int .i64 0] 39)) from by repeat (first | with_reducible exact Below.refl _ _ | (with_reducible exact HB.out) | (with_reducible refine Below.setCell ?_ (by first | omega | (simp; done) | (simp <;> omega)) _) | (with_reducible refine Below.alloc ?_ (by first | omega | (simp; done) | (simp <;> omega)) _) | (refine Below.alloc ?_ (by first | omega | (simp; done) | (simp <;> omega)) _) | (refine Below.setCell ?_ (by first | omega | (simp; done) | (simp <;> omega)) _)))
      have CQ := Lib.hid (spec_IsValidKey a0 (w1.alloc (.cells #[.int .i64 p0, .int .i64 p1, .int .i64 p2, .slice B3 n3 d3, .slice B4 n4 d4, .slice B5 n5 d5, .slice B6 n6 d6, .int .i64 0] 39)) (pow10_below HT.out HB2.out) WF.out)
      rw [hv] at CQ
      have k0 := KB1.out.at_ (j := 0) rfl
      have k1 := KB1.out.at_ (j := 1) rfl
      have k2 := KB1.out.at_ (j := 2) rfl
      have k3 := KB1.out.at_ (j := 3) rfl
      have k4 := KB1.out.at_ (j := 4) rfl
      have k5 := KB1.out.at_ (j := 5) rfl
      have k6 := KB1.out.at_ (j := 6) rfl
      have k7 := KB1.out.at_ (j := 7) rfl
      have kf := fun j => KB1.out.free j
      have kz : w.heap.size < w1.heap.size := by omega
      go_wp2_with fail
      clear k0 k1 k2 k3 k4 k5 k6 k7 kf kz
      refine CQ.out.mono ?_
      rintro e w3 ⟨rfl, hb⟩
      have KO3 := Lib.hid (show BoxAt w3 w1.heap.size 39 #[.int .i64 p0, .int .i64 p1, .int .i64 p2, .slice B3 n3 d3, .slice B4 n4 d4, .slice B5 n5 d5, .slice B6 n6 d6, .int .i64 0] from KO1.out.new hb)
      have KB3 := Lib.hid ((KB1.out.alloc_ _).new hb)
      have KR3 := Lib.hid ((KR1.out.alloc_ _).new hb)
      have HB3 := Lib.hid (below_trans HB2.out hb (Nat.le_refl _))
      have hs3 := hb.size
      (try simp [World.setCell] at hs3)
      have P3 := Lib.hid ((G3.out.alloc _).new hb)
      have P4 := Lib.hid ((G4.out.alloc _).new hb)
      have P5 := Lib.hid ((G5.out.alloc _).new hb)
      have P6 := Lib.hid ((G6.out.alloc _).new hb)
      clear hb CQ KO1 KB1 KR1 G3 G4 G5 G6
      have CQ := Lib.hid (spec_IsPackage p0 p1 p2 l3 A3 n3 c3 0 w.heap.size l4 A4 n4 c4 0 w.heap.size l5 A5 n5 c5 0 w.heap.size l6 A6 n6 c6 0 w.heap.size p7 w3 h3 (R3.out.below HB3.out (Nat.le_refl _)) k3 b3 h4 (R4.out.below HB3.out (Nat.le_refl _)) k4 b4 h5 (R5.out.below HB3.out (Nat.le_refl _)) k5 b5 h6 (R6.out.below HB3.out (Nat.le_refl _)) k6 b6)
      rw [hq] at CQ
      have k0 := KB3.out.at_ (j := 0) rfl
      have k1 := KB3.out.at_ (j := 1) rfl
      have k2 := KB3.out.at_ (j := 2) rfl
      have k3 := KB3.out.at_ (j := 3) rfl
      have k4 := KB3.out.at_ (j := 4) rfl
      have k5 := KB3.out.at_ (j := 5) rfl
      have k6 := KB3.out.at_ (j := 6) rfl
      have k7 := KB3.out.at_ (j := 7) rfl
      have kf := fun j => KB3.out.free j
      go_wp2_with fail
      clear k0 k1 k2 k3 k4 k5 k6 k7 kf
      refine CQ.out.mono ?_
      rintro e w4 ⟨rfl, hb⟩
      replace KO3 := Lib.hid (KO3.out.new hb)
      replace KB3 := Lib.hid (KB3.out.new hb)
      replace KR3 := Lib.hid (KR3.out.new hb)
      replace HB3 := Lib.hid (below_trans HB3.out hb (Nat.le_refl _))
      replace P3 := Lib.hid (P3.out.new hb)
      replace P4 := Lib.hid (P4.out.new hb)
      replace P5 := Lib.hid (P5.out.new hb)
      replace P6 := Lib.hid (P6.out.new hb)
      have hs_w4 := hb.size
      clear hb
      clear CQ
      have KOf := KO3
      have KRf := KR3
      have HBf := HB3
      have HSz := Lib.hid (show w1.heap.size ≤ w4.heap.size by omega)
      have G3 := P3
      have G4 := P4
      have G5 := P5
      have G6 := P6
      clear KO3 KR3 HB3 P3 P4 P5 P6 KB3
      have k0 := KOf.out.at_ (j := 0) rfl
      have q0 := KRf.out.at_ (j := 0) rfl
      have k1 := KOf.out.at_ (j := 1) rfl
      have q1 := KRf.out.at_ (j := 1) rfl
      have k2 := KOf.out.at_ (j := 2) rfl
      have q2 := KRf.out.at_ (j := 2) rfl
      have k3 := KOf.out.at_ (j := 3) rfl
      have q3 := KRf.out.at_ (j := 3) rfl
      have k4 := KOf.out.at_ (j := 4) rfl
      have q4 := KRf.out.at_ (j := 4) rfl
      have k5 := KOf.out.at_ (j := 5) rfl
      have q5 := KRf.out.at_ (j := 5) rfl
      have k6 := KOf.out.at_ (j := 6) rfl
      have q6 := KRf.out.at_ (j := 6) rfl
      have k7 := KOf.out.at_ (j := 7) rfl
      have q7 := KRf.out.at_ (j := 7) rfl
      have qf := fun j => KRf.out.free j
      have kf := fun j => KOf.out.free j
      have hol := KOf.out.lt
      have hrl := KRf.out.lt
      go_wp2_with fail
      have Z0 := KRf.out
      replace Z0 := (show BoxAt _ (w.heap.size + 1) 39 #[.int .i64 p0, .int .i64 0, .int .i64 0, .slice none 0 0, .slice none 0 0, .slice none 0 0, .slice none 0 0, .int .i64 0] from pk_put Z0 0 (.int .i64 p0))
      replace Z0 := (show BoxAt _ (w.heap.size + 1) 39 #[.int .i64 p0, .int .i64 p1, .int .i64 0, .slice none 0 0, .slice none 0 0, .slice none 0 0, .slice none 0 0, .int .i64 0] from pk_put Z0 1 (.int .i64 p1))
      replace Z0 := (show BoxAt _ (w.heap.size + 1) 39 #[.int .i64 p0, .int .i64 p1, .int .i64 p2, .slice none 0 0, .slice none 0 0, .slice none 0 0, .slice none 0 0, .int .i64 0] from pk_put Z0 2 (.int .i64 p2))
      replace Z0 := (show BoxAt _ (w.heap.size + 1) 39 #[.int .i64 p0, .int .i64 p1, .int .i64 p2, .slice B3 n3 d3, .slice none 0 0, .slice none 0 0, .slice none 0 0, .int .i64 0] from pk_put Z0 3 (.slice B3 n3 d3))
      replace Z0 := (show BoxAt _ (w.heap.size + 1) 39 #[.int .i64 p0, .int .i64 p1, .int .i64 p2, .slice B3 n3 d3, .slice B4 n4 d4, .slice none 0 0, .slice none 0 0, .int .i64 0] from pk_put Z0 4 (.slice B4 n4 d4))
      replace Z0 := (show BoxAt _ (w.heap.size + 1) 39 #[.int .i64 p0, .int .i64 p1, .int .i64 p2, .slice B3 n3 d3, .slice B4 n4 d4, .slice B5 n5 d5, .slice none 0 0, .int .i64 0] from pk_put Z0 5 (.slice B5 n5 d5))
      replace Z0 := (show BoxAt _ (w.heap.size + 1) 39 #[.int .i64 p0, .int .i64 p1, .int .i64 p2, .slice B3 n3 d3, .slice B4 n4 d4, .slice B5 n5 d5, .slice B6 n6 d6, .int .i64 0] from pk_put Z0 6 (.slice B6 n6 d6))
      replace Z0 := (show BoxAt _ (w.heap.size + 1) 39 #[.int .i64 p0, .int .i64 p1, .int .i64 p2, .slice B3 n3 d3, .slice B4 n4 d4, .slice B5 n5 d5, .slice B6 n6 d6, .int .i64 0] from pk_put Z0 7 (.int .i64 0))
      have KF := Z0
      have f0 := KF.at_ (j := 0) rfl
      have f1 := KF.at_ (j := 1) rfl
      have f2 := KF.at_ (j := 2) rfl
      have f3 := KF.at_ (j := 3) rfl
      have f4 := KF.at_ (j := 4) rfl
      have f5 := KF.at_ (j := 5) rfl
      have f6 := KF.at_ (j := 6) rfl
      have f7 := KF.at_ (j := 7) rfl
      rw [HE.out]
      exact bodyPost_ret (v := .agg #[.int .i64 p0, .int .i64 p1, .int .i64 p2, .slice B3 n3 d3, .slice B4 n4 d4, .slice B5 n5 d5, .slice B6 n6 d6, .int .i64 0]) (by simp [results, Tryz.results14, go_sem, f0, f1, f2, f3, f4, f5, f6, f7]) rfl
        ⟨B3, B4, B5, B6, d3, g3, i3, d4, g4, i4, d5, g5, i5, d6, g6, i6, rfl, (by repeat (first | with_reducible exact G3.out | (with_reducible refine Fr.put ?_ (by have h := MB.out; first | omega | (simp; done) | (simp <;> omega)) _) | (with_reducible refine Fr.alloc ?_ _))), (by repeat (first | with_reducible exact G4.out | (with_reducible refine Fr.put ?_ (by have h := MB.out; first | omega | (simp; done) | (simp <;> omega)) _) | (with_reducible refine Fr.alloc ?_ _))), (by repeat (first | with_reducible exact G5.out | (with_reducible refine Fr.put ?_ (by have h := MB.out; first | omega | (simp; done) | (simp <;> omega)) _) | (with_reducible refine Fr.alloc ?_ _))), (by repeat (first | with_reducible exact G6.out | (with_reducible refine Fr.put ?_ (by have h := MB.out; first | omega | (simp; done) | (simp <;> omega)) _) | (with_reducible refine Fr.alloc ?_ _))),
          Lib.hid (by have h := MS.out; have hz := HSz.out; unfold SepPackage at h ⊢; simp at h ⊢; omega), by repeat (first | with_reducible exact Below.refl _ _ | (with_reducible exact HBf.out) | (with_reducible refine Below.setCell ?_ (by first | omega | (simp; done) | (simp <;> omega)) _) | (with_reducible refine Below.alloc ?_ (by first | omega | (simp; done) | (simp <;> omega)) _) | (refine Below.alloc ?_ (by first | omega | (simp; done) | (simp <;> omega)) _) | (refine Below.setCell ?_ (by first | omega | (simp; done) | (simp <;> omega)) _))⟩
    | true =>
      have HE := Lib.hid (show mSealPk a0 p0 p1 p2 l3 l4 l5 l6 = mKHash a0 (mPInts p0 p1 p2 l3 l4 l5 l6) by unfold mSealPk; rw [if_pos hq, if_pos hv])
      have HLen := Lib.hid (mPInts_len p0 p1 p2 l3 l4 l5 l6)
      have CI := Lib.hid (fun (W : World) (h : Below w.heap.size w W) => spec_PackageInts p0 p1 p2 l3 A3 n3 c3 0 w.heap.size l4 A4 n4 c4 0 w.heap.size l5 A5 n5 c5 0 w.heap.size l6 A6 n6 c6 0 w.heap.size p7 W h3 (R3.out.below h (Nat.le_refl _)) k3 b3 h4 (R4.out.below h (Nat.le_refl _)) k4 b4 h5 (R5.out.below h (Nat.le_refl _)) k5 b5 h6 (R6.out.below h (Nat.le_refl _)) k6 b6)
      have hxl : (mPInts p0 p1 p2 l3 l4 l5 l6).length ≤ 1099511627000 := by have h := HLen.out; have := rd_len TGrant.len R3.out (by decide); have := rd_len TFlow.len R4.out (by decide); have := rd_len TRule.len R5.out (by decide); have := rd_len TOp.len R6.out (by decide); omega
      have HXb := Lib.hid (mPInts_fits b3.out b4.out b5.out b6.out (p0 := p0) (p1 := p1) (p2 := p2) (by have := rd_len TGrant.len R3.out (by decide); omega) (by have := rd_len TFlow.len R4.out (by decide); omega) (by have := rd_len TRule.len R5.out (by decide); omega) (by have := rd_len TOp.len R6.out (by decide); omega) hq)
      generalize mPInts p0 p1 p2 l3 l4 l5 l6 = X at HE CI hxl HXb
      generalize hnx : X.length = nx at CI hxl
      clear hnx HLen
      go_enter Tryz.func14, Tryz.ntmps14
      go_wp2_with fail
      refine (spec_l26Copy p0 p1 p2 l3 A3 n3 c3 0 w.heap.size l4 A4 n4 c4 0 w.heap.size l5 A5 n5 c5 0 w.heap.size l6 A6 n6 c6 0 w.heap.size p7 _ h3 (R3.out.below (by repeat (first | with_reducible exact Below.refl _ _ | (with_reducible exact HB.out) | (with_reducible refine Below.setCell ?_ (by first | omega | (simp; done) | (simp <;> omega)) _) | (with_reducible refine Below.alloc ?_ (by first | omega | (simp; done) | (simp <;> omega)) _) | (refine Below.alloc ?_ (by first | omega | (simp; done) | (simp <;> omega)) _) | (refine Below.setCell ?_ (by first | omega | (simp; done) | (simp <;> omega)) _))) (Nat.le_refl _)) h4 (R4.out.below (by repeat (first | with_reducible exact Below.refl _ _ | (with_reducible exact HB.out) | (with_reducible refine Below.setCell ?_ (by first | omega | (simp; done) | (simp <;> omega)) _) | (with_reducible refine Below.alloc ?_ (by first | omega | (simp; done) | (simp <;> omega)) _) | (refine Below.alloc ?_ (by first | omega | (simp; done) | (simp <;> omega)) _) | (refine Below.setCell ?_ (by first | omega | (simp; done) | (simp <;> omega)) _))) (Nat.le_refl _)) h5 (R5.out.below (by repeat (first | with_reducible exact Below.refl _ _ | (with_reducible exact HB.out) | (with_reducible refine Below.setCell ?_ (by first | omega | (simp; done) | (simp <;> omega)) _) | (with_reducible refine Below.alloc ?_ (by first | omega | (simp; done) | (simp <;> omega)) _) | (refine Below.alloc ?_ (by first | omega | (simp; done) | (simp <;> omega)) _) | (refine Below.setCell ?_ (by first | omega | (simp; done) | (simp <;> omega)) _))) (Nat.le_refl _)) h6 (R6.out.below (by repeat (first | with_reducible exact Below.refl _ _ | (with_reducible exact HB.out) | (with_reducible refine Below.setCell ?_ (by first | omega | (simp; done) | (simp <;> omega)) _) | (with_reducible refine Below.alloc ?_ (by first | omega | (simp; done) | (simp <;> omega)) _) | (refine Below.alloc ?_ (by first | omega | (simp; done) | (simp <;> omega)) _) | (refine Below.setCell ?_ (by first | omega | (simp; done) | (simp <;> omega)) _))) (Nat.le_refl _))).mono ?_
      rintro e w1 ⟨B3, B4, B5, B6, d3, g3, i3, d4, g4, i4, d5, g5, i5, d6, g6, i6, rfl, F3, F4, F5, F6, MS, hb⟩
      have KB1 := Lib.hid (KB0.out.new hb)
      have KR1 := Lib.hid (KR0.out.new hb)
      replace MS : Hid (SepPackage (w.heap.size + 2) w1.heap.size g3 i3 g4 i4 g5 i5 g6 i6) := Lib.hid (by have h := MS.out; unfold SepPackage at h ⊢; simp at h; omega)
      have MB := Lib.hid (SepPackage_bd MS.out)
      have hs1 := hb.size
      (try simp at hs1)
      replace HB := Lib.hid (show Below w.heap.size w w1 from Below.trans (by repeat (first | with_reducible exact Below.refl _ _ | (with_reducible exact HB.out) | (with_reducible refine Below.setCell ?_ (by first | omega | (simp; done) | (simp <;> omega)) _) | (with_reducible refine Below.alloc ?_ (by first | omega | (simp; done) | (simp <;> omega)) _) | (refine Below.alloc ?_ (by first | omega | (simp; done) | (simp <;> omega)) _) | (refine Below.setCell ?_ (by first | omega | (simp; done) | (simp <;> omega)) _))) (hb.mono (by first | omega | (simp; done) | (simp <;> omega))))
      have G3 := Lib.hid F3
      have G4 := Lib.hid F4
      have G5 := Lib.hid F5
      have G6 := Lib.hid F6
      have KO1 := Lib.hid (box_new w1 39 #[.int .i64 p0, .int .i64 p1, .int .i64 p2, .slice B3 n3 d3, .slice B4 n4 d4, .slice B5 n5 d5, .slice B6 n6 d6, .int .i64 0])
      have hz1 : w.heap.size + 1 < w1.heap.size := by omega
      clear hb F3 F4 F5 F6 KB0 KR0
      have HB2 := Lib.hid (show Below w.heap.size w (w1.alloc (.cells #[.int .i64 p0, .int .i64 p1, .int .i64 p2, .slice B3 n3 d3, .slice B4 n4 d4, .slice B5 n5 d5, .slice B6 n6 d6, .int .i64 0] 39)) from by repeat (first | with_reducible exact Below.refl _ _ | (with_reducible exact HB.out) | (with_reducible refine Below.setCell ?_ (by first | omega | (simp; done) | (simp <;> omega)) _) | (with_reducible refine Below.alloc ?_ (by first | omega | (simp; done) | (simp <;> omega)) _) | (refine Below.alloc ?_ (by first | omega | (simp; done) | (simp <;> omega)) _) | (refine Below.setCell ?_ (by first | omega | (simp; done) | (simp <;> omega)) _)))
      have CQ := Lib.hid (spec_IsValidKey a0 (w1.alloc (.cells #[.int .i64 p0, .int .i64 p1, .int .i64 p2, .slice B3 n3 d3, .slice B4 n4 d4, .slice B5 n5 d5, .slice B6 n6 d6, .int .i64 0] 39)) (pow10_below HT.out HB2.out) WF.out)
      rw [hv] at CQ
      have k0 := KB1.out.at_ (j := 0) rfl
      have k1 := KB1.out.at_ (j := 1) rfl
      have k2 := KB1.out.at_ (j := 2) rfl
      have k3 := KB1.out.at_ (j := 3) rfl
      have k4 := KB1.out.at_ (j := 4) rfl
      have k5 := KB1.out.at_ (j := 5) rfl
      have k6 := KB1.out.at_ (j := 6) rfl
      have k7 := KB1.out.at_ (j := 7) rfl
      have kf := fun j => KB1.out.free j
      have kz : w.heap.size < w1.heap.size := by omega
      go_wp2_with fail
      clear k0 k1 k2 k3 k4 k5 k6 k7 kf kz
      refine CQ.out.mono ?_
      rintro e w3 ⟨rfl, hb⟩
      have KO3 := Lib.hid (show BoxAt w3 w1.heap.size 39 #[.int .i64 p0, .int .i64 p1, .int .i64 p2, .slice B3 n3 d3, .slice B4 n4 d4, .slice B5 n5 d5, .slice B6 n6 d6, .int .i64 0] from KO1.out.new hb)
      have KB3 := Lib.hid ((KB1.out.alloc_ _).new hb)
      have KR3 := Lib.hid ((KR1.out.alloc_ _).new hb)
      have HB3 := Lib.hid (below_trans HB2.out hb (Nat.le_refl _))
      have hs3 := hb.size
      (try simp [World.setCell] at hs3)
      have P3 := Lib.hid ((G3.out.alloc _).new hb)
      have P4 := Lib.hid ((G4.out.alloc _).new hb)
      have P5 := Lib.hid ((G5.out.alloc _).new hb)
      have P6 := Lib.hid ((G6.out.alloc _).new hb)
      clear hb CQ KO1 KB1 KR1 G3 G4 G5 G6
      have CQ := Lib.hid (spec_IsPackage p0 p1 p2 l3 A3 n3 c3 0 w.heap.size l4 A4 n4 c4 0 w.heap.size l5 A5 n5 c5 0 w.heap.size l6 A6 n6 c6 0 w.heap.size p7 w3 h3 (R3.out.below HB3.out (Nat.le_refl _)) k3 b3 h4 (R4.out.below HB3.out (Nat.le_refl _)) k4 b4 h5 (R5.out.below HB3.out (Nat.le_refl _)) k5 b5 h6 (R6.out.below HB3.out (Nat.le_refl _)) k6 b6)
      rw [hq] at CQ
      have k0 := KB3.out.at_ (j := 0) rfl
      have k1 := KB3.out.at_ (j := 1) rfl
      have k2 := KB3.out.at_ (j := 2) rfl
      have k3 := KB3.out.at_ (j := 3) rfl
      have k4 := KB3.out.at_ (j := 4) rfl
      have k5 := KB3.out.at_ (j := 5) rfl
      have k6 := KB3.out.at_ (j := 6) rfl
      have k7 := KB3.out.at_ (j := 7) rfl
      have kf := fun j => KB3.out.free j
      go_wp2_with fail
      clear k0 k1 k2 k3 k4 k5 k6 k7 kf
      refine CQ.out.mono ?_
      rintro e w4 ⟨rfl, hb⟩
      replace KO3 := Lib.hid (KO3.out.new hb)
      replace KB3 := Lib.hid (KB3.out.new hb)
      replace KR3 := Lib.hid (KR3.out.new hb)
      replace HB3 := Lib.hid (below_trans HB3.out hb (Nat.le_refl _))
      replace P3 := Lib.hid (P3.out.new hb)
      replace P4 := Lib.hid (P4.out.new hb)
      replace P5 := Lib.hid (P5.out.new hb)
      replace P6 := Lib.hid (P6.out.new hb)
      have hs_w4 := hb.size
      clear hb
      clear CQ
      have CQ := Lib.hid (CI.out w4 HB3.out)
      have k0 := KB3.out.at_ (j := 0) rfl
      have k1 := KB3.out.at_ (j := 1) rfl
      have k2 := KB3.out.at_ (j := 2) rfl
      have k3 := KB3.out.at_ (j := 3) rfl
      have k4 := KB3.out.at_ (j := 4) rfl
      have k5 := KB3.out.at_ (j := 5) rfl
      have k6 := KB3.out.at_ (j := 6) rfl
      have k7 := KB3.out.at_ (j := 7) rfl
      have kf := fun j => KB3.out.free j
      go_wp2_with fail
      clear k0 k1 k2 k3 k4 k5 k6 k7 kf
      refine CQ.out.mono ?_
      rintro e w5 ⟨AI, cI, rfl, GI, hb⟩
      replace KO3 := Lib.hid (KO3.out.new hb)
      replace KB3 := Lib.hid (KB3.out.new hb)
      replace KR3 := Lib.hid (KR3.out.new hb)
      replace HB3 := Lib.hid (below_trans HB3.out hb (Nat.le_refl _))
      replace P3 := Lib.hid (P3.out.new hb)
      replace P4 := Lib.hid (P4.out.new hb)
      replace P5 := Lib.hid (P5.out.new hb)
      replace P6 := Lib.hid (P6.out.new hb)
      have hs_w5 := hb.size
      clear hb
      clear CQ
      have CQ := Lib.hid (spec_KeyedHash' a0 X AI nx cI _ _ w5 WF.out hxl GI.rd HXb)
      go_wp2_with fail
      refine CQ.out.mono ?_
      rintro e w6 ⟨rfl, hb⟩
      replace KO3 := Lib.hid (KO3.out.new hb)
      replace KB3 := Lib.hid (KB3.out.new hb)
      replace KR3 := Lib.hid (KR3.out.new hb)
      replace HB3 := Lib.hid (below_trans HB3.out hb (Nat.le_refl _))
      replace P3 := Lib.hid (P3.out.new hb)
      replace P4 := Lib.hid (P4.out.new hb)
      replace P5 := Lib.hid (P5.out.new hb)
      replace P6 := Lib.hid (P6.out.new hb)
      have hs_w6 := hb.size
      clear hb
      clear CQ
      have KOf := KO3
      have KRf := KR3
      have HBf := HB3
      have HSz := Lib.hid (show w1.heap.size ≤ w6.heap.size by omega)
      have G3 := P3
      have G4 := P4
      have G5 := P5
      have G6 := P6
      clear KO3 KR3 HB3 P3 P4 P5 P6 KB3
      have k0 := KOf.out.at_ (j := 0) rfl
      have q0 := KRf.out.at_ (j := 0) rfl
      have k1 := KOf.out.at_ (j := 1) rfl
      have q1 := KRf.out.at_ (j := 1) rfl
      have k2 := KOf.out.at_ (j := 2) rfl
      have q2 := KRf.out.at_ (j := 2) rfl
      have k3 := KOf.out.at_ (j := 3) rfl
      have q3 := KRf.out.at_ (j := 3) rfl
      have k4 := KOf.out.at_ (j := 4) rfl
      have q4 := KRf.out.at_ (j := 4) rfl
      have k5 := KOf.out.at_ (j := 5) rfl
      have q5 := KRf.out.at_ (j := 5) rfl
      have k6 := KOf.out.at_ (j := 6) rfl
      have q6 := KRf.out.at_ (j := 6) rfl
      have k7 := KOf.out.at_ (j := 7) rfl
      have q7 := KRf.out.at_ (j := 7) rfl
      have qf := fun j => KRf.out.free j
      have kf := fun j => KOf.out.free j
      have hol := KOf.out.lt
      have hrl := KRf.out.lt
      go_wp2_with fail
      have Z0 := pk_past (p := ⟨w1.heap.size, 7, none⟩) (v := .int .i64 (mKHash a0 X)) KRf.out (by simp; omega)
      replace Z0 := (show BoxAt _ (w.heap.size + 1) 39 #[.int .i64 p0, .int .i64 0, .int .i64 0, .slice none 0 0, .slice none 0 0, .slice none 0 0, .slice none 0 0, .int .i64 0] from pk_put Z0 0 (.int .i64 p0))
      replace Z0 := (show BoxAt _ (w.heap.size + 1) 39 #[.int .i64 p0, .int .i64 p1, .int .i64 0, .slice none 0 0, .slice none 0 0, .slice none 0 0, .slice none 0 0, .int .i64 0] from pk_put Z0 1 (.int .i64 p1))
      replace Z0 := (show BoxAt _ (w.heap.size + 1) 39 #[.int .i64 p0, .int .i64 p1, .int .i64 p2, .slice none 0 0, .slice none 0 0, .slice none 0 0, .slice none 0 0, .int .i64 0] from pk_put Z0 2 (.int .i64 p2))
      replace Z0 := (show BoxAt _ (w.heap.size + 1) 39 #[.int .i64 p0, .int .i64 p1, .int .i64 p2, .slice B3 n3 d3, .slice none 0 0, .slice none 0 0, .slice none 0 0, .int .i64 0] from pk_put Z0 3 (.slice B3 n3 d3))
      replace Z0 := (show BoxAt _ (w.heap.size + 1) 39 #[.int .i64 p0, .int .i64 p1, .int .i64 p2, .slice B3 n3 d3, .slice B4 n4 d4, .slice none 0 0, .slice none 0 0, .int .i64 0] from pk_put Z0 4 (.slice B4 n4 d4))
      replace Z0 := (show BoxAt _ (w.heap.size + 1) 39 #[.int .i64 p0, .int .i64 p1, .int .i64 p2, .slice B3 n3 d3, .slice B4 n4 d4, .slice B5 n5 d5, .slice none 0 0, .int .i64 0] from pk_put Z0 5 (.slice B5 n5 d5))
      replace Z0 := (show BoxAt _ (w.heap.size + 1) 39 #[.int .i64 p0, .int .i64 p1, .int .i64 p2, .slice B3 n3 d3, .slice B4 n4 d4, .slice B5 n5 d5, .slice B6 n6 d6, .int .i64 0] from pk_put Z0 6 (.slice B6 n6 d6))
      replace Z0 := (show BoxAt _ (w.heap.size + 1) 39 #[.int .i64 p0, .int .i64 p1, .int .i64 p2, .slice B3 n3 d3, .slice B4 n4 d4, .slice B5 n5 d5, .slice B6 n6 d6, .int .i64 (mKHash a0 X)] from pk_put Z0 7 (.int .i64 (mKHash a0 X)))
      have KF := Z0
      have f0 := KF.at_ (j := 0) rfl
      have f1 := KF.at_ (j := 1) rfl
      have f2 := KF.at_ (j := 2) rfl
      have f3 := KF.at_ (j := 3) rfl
      have f4 := KF.at_ (j := 4) rfl
      have f5 := KF.at_ (j := 5) rfl
      have f6 := KF.at_ (j := 6) rfl
      have f7 := KF.at_ (j := 7) rfl
      rw [HE.out]
      exact bodyPost_ret (v := .agg #[.int .i64 p0, .int .i64 p1, .int .i64 p2, .slice B3 n3 d3, .slice B4 n4 d4, .slice B5 n5 d5, .slice B6 n6 d6, .int .i64 (mKHash a0 X)]) (by simp [results, Tryz.results14, go_sem, f0, f1, f2, f3, f4, f5, f6, f7]) rfl
        ⟨B3, B4, B5, B6, d3, g3, i3, d4, g4, i4, d5, g5, i5, d6, g6, i6, rfl, (by repeat (first | with_reducible exact G3.out | (with_reducible refine Fr.put ?_ (by have h := MB.out; first | omega | (simp; done) | (simp <;> omega)) _) | (with_reducible refine Fr.alloc ?_ _))), (by repeat (first | with_reducible exact G4.out | (with_reducible refine Fr.put ?_ (by have h := MB.out; first | omega | (simp; done) | (simp <;> omega)) _) | (with_reducible refine Fr.alloc ?_ _))), (by repeat (first | with_reducible exact G5.out | (with_reducible refine Fr.put ?_ (by have h := MB.out; first | omega | (simp; done) | (simp <;> omega)) _) | (with_reducible refine Fr.alloc ?_ _))), (by repeat (first | with_reducible exact G6.out | (with_reducible refine Fr.put ?_ (by have h := MB.out; first | omega | (simp; done) | (simp <;> omega)) _) | (with_reducible refine Fr.alloc ?_ _))),
          Lib.hid (by have h := MS.out; have hz := HSz.out; unfold SepPackage at h ⊢; simp at h ⊢; omega), by repeat (first | with_reducible exact Below.refl _ _ | (with_reducible exact HBf.out) | (with_reducible refine Below.setCell ?_ (by first | omega | (simp; done) | (simp <;> omega)) _) | (with_reducible refine Below.alloc ?_ (by first | omega | (simp; done) | (simp <;> omega)) _) | (refine Below.alloc ?_ (by first | omega | (simp; done) | (simp <;> omega)) _) | (refine Below.setCell ?_ (by first | omega | (simp; done) | (simp <;> omega)) _))⟩
end Go.Proofs.YtmelfgimhilhbaaGreatDoor
