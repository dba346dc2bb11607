/- mayNow, mayAt and l34May. No condition of its own. -/
import Derived.Test.YtfhoemgpilpapaaGreatDBrowser
import Derived.Test.YtfhoemgpilpapaaGreatMayDo
namespace Go.Proofs.YtfhoemgpilpapaaGreat
open Go Go.ChangeShapes Go.WideShapes Go.ChangeAt Go.RowKit Go.Lib
set_option linter.unusedVariables false
set_option linter.unusedSimpArgs false
set_option maxRecDepth 100000
set_option maxHeartbeats 4000000
def mMayN (m : MBrowser) (ext : Int) (s : TSite) (kind : Int) : Bool := mAllowed m.l3 ext s kind m.p7 false && !mDenied m.l4 ext s kind
theorem may_call {f : Nat} {P : Program} {x : DBrowser} {lo hi : Nat} {w : World} {ext kind : Int} {s : TSite}
    (C : ∀ W : World, Rd W lo hi 7 x.A3 x.n3 (cGrant x.l3) → Rd W lo hi 4 x.A4 x.n4 (cLimit x.l4) → Calls P f #[.slice x.A3 x.n3 x.c3, .slice x.A4 x.n4 x.c4, .int .i64 ext, vSite s, .int .i64 kind, .int .i64 x.p7, .bool false] W (Says (.bool (mAllowed x.l3 ext s kind x.p7 false && !mDenied x.l4 ext s kind)) W))
    (hr : x.rd w lo hi) {W : World} (hb : Below w.heap.size w W) : Calls P f #[.slice x.A3 x.n3 x.c3, .slice x.A4 x.n4 x.c4, .int .i64 ext, vSite s, .int .i64 kind, .int .i64 x.p7, .bool false] W (Says (.bool (mMayN x.dat ext s kind)) W) :=
  C W (hr.2.2.1.2.new hb) (hr.2.2.2.1.2.new hb)
set_option maxHeartbeats 8000000 in
theorem impl_mayNow (x : DBrowser) (m : MBrowser) (lo hi : Nat) (ext : Int) (s : TSite) (kind : Int) (w : World) (hd : x.dat = m) (hz : m.sz ≤ 1048576) (hok : m.ok) (hr : x.rd w lo hi) (hc : x.caps) :
    Calls Tryz.prog 39 #[.agg #[.int .i64 x.p0, .slice x.A1 x.n1 x.c1, .slice x.A2 x.n2 x.c2, .slice x.A3 x.n3 x.c3, .slice x.A4 x.n4 x.c4, .slice x.A5 x.n5 x.c5, .slice x.A6 x.n6 x.c6, .int .i64 x.p7], .int .i64 ext, vSite s, .int .i64 kind] w (Says (.bool (mMayN m ext s kind)) w) := by
  subst hd
  have hzs := hz
  rw [hr.sz] at hz
  have hz' : x.n1 + x.n2 + x.n3 + x.n4 + x.n5 + x.n6 ≤ 1048576 := by omega
  have C0 := fun {W : World} (hb : Below w.heap.size w W) => may_call (ext := ext) (kind := kind) (s := s) (fun W r1 r2 => impl_MayDoC x.l3 x.A3 x.n3 x.c3 lo hi x.l4 x.A4 x.n4 x.c4 lo hi ext s kind x.p7 false W (by omega) r1 hc.1 hok.2.2.2.1 (by omega) r2 hc.2.1 hok.2.2.2.2.1) hr hb
  replace C0 := Lib.hid (fun W (hb : Below w.heap.size w W) => C0 hb)
  generalize mMayN x.dat ext s kind = r at C0 ⊢
  clear hr hz hzs hok hc hz'
  go_enter Tryz.func39, Tryz.ntmps39
  go_wp2_with fail
  refine (C0.out _ (((Below.refl _ _).alloc (Nat.le_refl _) _).alloc (by simp) _)).mono ?_
  rintro e w1 ⟨rfl, hb1⟩
  have HB1 := Lib.hid (below_trans (((Below.refl _ _).alloc (Nat.le_refl _) _).alloc (by simp) _) hb1 (by simp <;> omega))
  clear hb1
  go_wp2_with fail
  go_ret
  exact ⟨rfl, HB1.out⟩
set_option maxHeartbeats 8000000 in
theorem impl_mayAt (x : DBrowser) (m : MBrowser) (lo hi : Nat) (ext : Int) (o : Int) (kind : Int) (w : World) (hd : x.dat = m) (hz : m.sz ≤ 1048576) (hok : m.ok) (hr : x.rd w lo hi) (hc : x.caps) :
    Calls Tryz.prog 59 #[.agg #[.int .i64 x.p0, .slice x.A1 x.n1 x.c1, .slice x.A2 x.n2 x.c2, .slice x.A3 x.n3 x.c3, .slice x.A4 x.n4 x.c4, .slice x.A5 x.n5 x.c5, .slice x.A6 x.n6 x.c6, .int .i64 x.p7], .int .i64 ext, .int .i64 o, .int .i64 kind] w (Says (.bool (mMayN m ext ⟨o, 0⟩ kind)) w) := by
  have C0 := Lib.hid (fun W h => impl_mayNow x m lo hi ext ⟨o, 0⟩ kind W hd hz hok h hc)
  have HR := Lib.hid hr
  generalize mMayN m ext ⟨o, 0⟩ kind = r at C0 ⊢
  clear hr hz hok hc hd
  go_enter Tryz.func59, Tryz.ntmps59
  go_wp2_with fail
  refine (C0.out _ (HR.out.alloc _)).mono ?_
  rintro e w1 ⟨rfl, hb1⟩
  have HB1 := Lib.hid (below_trans ((Below.refl _ _).alloc (Nat.le_refl _) _) hb1 (by simp <;> omega))
  clear hb1
  go_wp2_with fail
  go_ret
  exact ⟨rfl, HB1.out⟩
set_option maxHeartbeats 8000000 in
theorem spec_l34May (x : DBrowser) (m : MBrowser) (lo hi : Nat) (ext : Int) (o : Int) (kind : Int) (w : World) (hd : x.dat = m) (hz : m.sz ≤ 1048576) (hok : m.ok) (hr : x.rd w lo hi) (hc : x.caps) :
    Calls Tryz.prog 56 #[.agg #[.int .i64 x.p0, .slice x.A1 x.n1 x.c1, .slice x.A2 x.n2 x.c2, .slice x.A3 x.n3 x.c3, .slice x.A4 x.n4 x.c4, .slice x.A5 x.n5 x.c5, .slice x.A6 x.n6 x.c6, .int .i64 x.p7], .int .i64 ext, .int .i64 o, .int .i64 kind] w (Says (.bool (mMayN m ext ⟨o, 0⟩ kind)) w) := by
  subst hd
  have hzs := hz
  rw [hr.sz] at hz
  have hz' : x.n1 + x.n2 + x.n3 + x.n4 + x.n5 + x.n6 ≤ 1048576 := by omega
  have C0 := fun {W : World} (hb : Below w.heap.size w W) => may_call (ext := ext) (kind := kind) (s := ⟨o, 0⟩) (fun W r1 r2 => spec_MayDo x.l3 x.A3 x.n3 x.c3 lo hi x.l4 x.A4 x.n4 x.c4 lo hi ext ⟨o, 0⟩ kind x.p7 false W (by omega) r1 hc.1 hok.2.2.2.1 (by omega) r2 hc.2.1 hok.2.2.2.2.1) hr hb
  replace C0 := Lib.hid (fun W (hb : Below w.heap.size w W) => C0 hb)
  generalize mMayN x.dat ext ⟨o, 0⟩ kind = r at C0 ⊢
  clear hr hz hzs hok hc hz'
  go_enter Tryz.func56, Tryz.ntmps56
  go_wp2_with fail
  refine (C0.out _ ((Below.refl _ _).alloc (Nat.le_refl _) _)).mono ?_
  rintro e w1 ⟨rfl, hb1⟩
  have HB1 := Lib.hid (below_trans ((Below.refl _ _).alloc (Nat.le_refl _) _) hb1 (by simp <;> omega))
  clear hb1
  go_wp2_with fail
  go_ret
  exact ⟨rfl, HB1.out⟩

end Go.Proofs.YtfhoemgpilpapaaGreat
