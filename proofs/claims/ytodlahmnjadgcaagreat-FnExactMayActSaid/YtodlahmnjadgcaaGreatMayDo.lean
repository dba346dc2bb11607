/- MayDo, of the program and of the model. -/
import Derived.Test.YtodlahmnjadgcaaGreatDenied
namespace Go.Proofs.YtodlahmnjadgcaaGreat
open Go Go.ChangeShapes Go.WideShapes Go.ChangeAt Go.RowKit Go.Lib
set_option linter.unusedVariables false
set_option linter.unusedSimpArgs false
set_option maxRecDepth 100000
set_option maxHeartbeats 4000000 in
theorem spec_MayDo (g : List TGrant) (A : Option Addr) (n c lo hi : Nat) (l : List TLimit) (A1 : Option Addr) (n1 c1 lo1 hi1 : Nat) (ext : Int) (s : TSite) (kind tick : Int) (clicked : Bool) (w : World) (hn : n ≤ 1048576) (hr : Rd w lo hi 7 A n (cGrant g)) (hcap : n ≤ c) (H : Hid (cGrantOk g)) (hn1 : n1 ≤ 1048576) (hr1 : Rd w lo1 hi1 4 A1 n1 (cLimit l)) (hcap1 : n1 ≤ c1) (H1 : Hid (cLimitOk l)) :
    Calls Tryz.prog 93 #[.slice A n c, .slice A1 n1 c1, .int .i64 ext, vSite s, .int .i64 kind, .int .i64 tick, .bool clicked] w (Says (.bool (mAllowed g ext s kind tick clicked && !mDenied l ext s kind)) w) := by
  have KB0 : BoxAt (w.alloc (.cells #[.int .i64 s.f0, .int .i64 s.f1] 57)) w.heap.size 57 #[.int .i64 s.f0, .int .i64 s.f1] := (by simpa using box_new w 57 #[.int .i64 s.f0, .int .i64 s.f1] : BoxAt (w.alloc (.cells #[.int .i64 s.f0, .int .i64 s.f1] 57)) w.heap.size 57 #[.int .i64 s.f0, .int .i64 s.f1])
  have HBw : Below w.heap.size w (w.alloc (.cells #[.int .i64 s.f0, .int .i64 s.f1] 57)) := ((Below.refl _ _).alloc (by first | exact Nat.le_refl _ | (simp; done) | (simp; omega)) _)
  have C0 := Lib.hid (fun W (hr : Rd W lo hi 7 A n (cGrant g)) => spec_IsAllowed g A n c lo hi ext s kind tick clicked W hn hr H)
  have C1 := Lib.hid (fun W (hr : Rd W lo1 hi1 4 A1 n1 (cLimit l)) => spec_IsDenied l A1 n1 c1 lo1 hi1 ext s kind W hn1 hr hcap1 H1)
  generalize mAllowed g ext s kind tick clicked = b0 at C0 ⊢
  generalize mDenied l ext s kind = b1 at C1 ⊢
  have HR := Lib.hid (hr.alloc (.cells #[.int .i64 s.f0, .int .i64 s.f1] 57))
  have HR1 := Lib.hid (hr1.alloc (.cells #[.int .i64 s.f0, .int .i64 s.f1] 57))
  have HBw := Lib.hid HBw
  have HK := Lib.hid KB0
  clear KB0 hr hr1
  cases b0 <;> cases b1
  all_goals
    go_enter Tryz.func93, Tryz.ntmps93
    go_wp2_with fail
    refine Calls.mono (C0.out _ HR.out) ?_
    rintro e w1 ⟨rfl, hb1⟩
    have HB1 := Lib.hid (below_trans HBw.out hb1 (Nat.le_refl _))
    have d0 : w1.cell? ⟨w.heap.size, 0, none⟩ = _ := (HK.out.new hb1).at_ (j := 0) rfl
    have d1 : w1.cell? ⟨w.heap.size, 1, none⟩ = _ := (HK.out.new hb1).at_ (j := 1) rfl
    have HR2 := Lib.hid (HR1.out.new hb1)
    clear hb1
    go_wp2_with (refine Calls.mono (C1.out _ HR2.out) ?_; rintro e w2 ⟨rfl, hb2⟩; have HB2 := Lib.hid (below_trans HB1.out hb2 (Nat.le_refl _)); clear hb2)
    go_ret
    exact ⟨rfl, by first | exact HB2.out | exact HB1.out⟩

set_option maxHeartbeats 4000000 in
theorem impl_MayDoC (g : List TGrant) (A : Option Addr) (n c lo hi : Nat) (l : List TLimit) (A1 : Option Addr) (n1 c1 lo1 hi1 : Nat) (ext : Int) (s : TSite) (kind tick : Int) (clicked : Bool) (w : World) (hn : n ≤ 1048576) (hr : Rd w lo hi 7 A n (cGrant g)) (hcap : n ≤ c) (H : Hid (cGrantOk g)) (hn1 : n1 ≤ 1048576) (hr1 : Rd w lo1 hi1 4 A1 n1 (cLimit l)) (hcap1 : n1 ≤ c1) (H1 : Hid (cLimitOk l)) :
    Calls Tryz.prog 95 #[.slice A n c, .slice A1 n1 c1, .int .i64 ext, vSite s, .int .i64 kind, .int .i64 tick, .bool clicked] w (Says (.bool (mAllowed g ext s kind tick clicked && !mDenied l ext s kind)) w) := by
  have KB0 : BoxAt (w.alloc (.cells #[.int .i64 s.f0, .int .i64 s.f1] 57)) w.heap.size 57 #[.int .i64 s.f0, .int .i64 s.f1] := (by simpa using box_new w 57 #[.int .i64 s.f0, .int .i64 s.f1] : BoxAt (w.alloc (.cells #[.int .i64 s.f0, .int .i64 s.f1] 57)) w.heap.size 57 #[.int .i64 s.f0, .int .i64 s.f1])
  have HBw : Below w.heap.size w (w.alloc (.cells #[.int .i64 s.f0, .int .i64 s.f1] 57)) := ((Below.refl _ _).alloc (by first | exact Nat.le_refl _ | (simp; done) | (simp; omega)) _)
  have C0 := Lib.hid (fun W (hr : Rd W lo hi 7 A n (cGrant g)) => impl_IsAllowed g A n c lo hi ext s kind tick clicked W hn hr H)
  have C1 := Lib.hid (fun W (hr : Rd W lo1 hi1 4 A1 n1 (cLimit l)) => impl_IsDeniedC l A1 n1 c1 lo1 hi1 ext s kind W hn1 hr hcap1 H1)
  generalize mAllowed g ext s kind tick clicked = b0 at C0 ⊢
  generalize mDenied l ext s kind = b1 at C1 ⊢
  have HR := Lib.hid (hr.alloc (.cells #[.int .i64 s.f0, .int .i64 s.f1] 57))
  have HR1 := Lib.hid (hr1.alloc (.cells #[.int .i64 s.f0, .int .i64 s.f1] 57))
  have HBw := Lib.hid HBw
  have HK := Lib.hid KB0
  clear KB0 hr hr1
  cases b0 <;> cases b1
  all_goals
    go_enter Tryz.func95, Tryz.ntmps95
    go_wp2_with fail
    refine Calls.mono (C0.out _ HR.out) ?_
    rintro e w1 ⟨rfl, hb1⟩
    have HB1 := Lib.hid (below_trans HBw.out hb1 (Nat.le_refl _))
    have d0 : w1.cell? ⟨w.heap.size, 0, none⟩ = _ := (HK.out.new hb1).at_ (j := 0) rfl
    have d1 : w1.cell? ⟨w.heap.size, 1, none⟩ = _ := (HK.out.new hb1).at_ (j := 1) rfl
    have HR2 := Lib.hid (HR1.out.new hb1)
    clear hb1
    go_wp2_with (refine Calls.mono (C1.out _ HR2.out) ?_; rintro e w2 ⟨rfl, hb2⟩; have HB2 := Lib.hid (below_trans HB1.out hb2 (Nat.le_refl _)); clear hb2)
    go_ret
    exact ⟨rfl, by first | exact HB2.out | exact HB1.out⟩
end Go.Proofs.YtodlahmnjadgcaaGreat
