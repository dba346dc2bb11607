/- IsRuled of the program. No condition of its own. -/
import Derived.Test.YtfhoemgpilpapaaPFor
import Derived.Test.YtfhoemgpilpapaaARld
import Derived.Test.YtfhoemgpilpapaaERule
import Derived.Deep.LoopGhost
import Derived.Deep.RegionHeld3
namespace Go.Proofs.Ytfhoemgpilpapaa
open Go Go.ChangeShapes Go.WideShapes Go.ChangeAt Go.RowKit Go.Lib
set_option linter.unusedVariables false
set_option linter.unusedSimpArgs false
set_option maxRecDepth 100000
set_option maxHeartbeats 4000000
/-- Whether a rule is declared by the package of its extension. -/
def mRuledOne (m : MBrowser) (r : TRule) : Bool := (mPackFor m r.f0).l5.any fun y => decide (r = y)
def mIsRuled (m : MBrowser) : Bool := m.l5.all (mRuledOne m)
set_option maxHeartbeats 8000000 in
theorem clo_Rld (x : DBrowser) (m : MBrowser) (lo hi : Nat) (B : Nat) (w0 : World) (hd : x.dat = m) (hz : m.sz ≤ 1048576) (hok : m.ok) (hr : x.rd w0 lo hi) (hc : x.caps) (h0 : BoxAt w0 B 40 #[.int .i64 x.p0, .slice x.A1 x.n1 x.c1, .slice x.A2 x.n2 x.c2, .slice x.A3 x.n3 x.c3, .slice x.A4 x.n4 x.c4, .slice x.A5 x.n5 x.c5, .slice x.A6 x.n6 x.c6, .int .i64 x.p7]) :
    PredB Try.prog 74 #[.pointer (some ⟨B, 0, none⟩)] (fun r : TRule => .agg #[.int .i64 r.f0, .int .i64 r.f1, .int .i64 r.f2, .int .i64 r.f3, .int .i64 r.f4, .int .i64 r.f5, .int .i64 r.f6, .int .i64 r.f7]) (mRuledOne m) x.l5 w0 := fun w r hr5 hb => by
  have CP := Lib.hid (fun W (hW : Below w.heap.size w W) => impl_packageFor x m lo hi r.f0 W hd hz hok ((hr.new hb).new hW) hc)
  have hsz : ∀ p : DPackage, p.dat = mPackFor m r.f0 → p.l5.length ≤ 1048576 := by
    intro p hp
    subst hd
    have h5 : p.l5 = (mPackFor x.dat r.f0).l5 := by rw [← hp]; rfl
    rw [h5]
    rcases mPackOf_cases x r.f0 with ⟨_, hfor⟩ | ⟨k, q, _, hlt, hkq, hfor⟩
    · rw [hfor]; simp [mP0]
    · rw [hfor]
      have h1 := MPackage.szs_mem (x.l2.map DPackage.dat) k q.dat (by rw [List.getElem?_map, hkq]; rfl)
      rw [hr.sz] at hz
      simp only [MPackage.sz, DPackage.dat] at h1 ⊢
      omega
  have KB0 := Lib.hid (((h0.new hb).alloc_ (.cells #[.int .i64 r.f0, .int .i64 r.f1, .int .i64 r.f2, .int .i64 r.f3, .int .i64 r.f4, .int .i64 r.f5, .int .i64 r.f6, .int .i64 r.f7] 104)).drw)
  have KR0 := Lib.hid (box_new w 104 #[.int .i64 r.f0, .int .i64 r.f1, .int .i64 r.f2, .int .i64 r.f3, .int .i64 r.f4, .int .i64 r.f5, .int .i64 r.f6, .int .i64 r.f7]).drw
  have HB0 := Lib.hid (show Below w.heap.size w (w.alloc (.cells #[.int .i64 r.f0, .int .i64 r.f1, .int .i64 r.f2, .int .i64 r.f3, .int .i64 r.f4, .int .i64 r.f5, .int .i64 r.f6, .int .i64 r.f7] 104)).drew from ((Below.refl w.heap.size w).alloc (Nat.le_refl _) _).drew)
  have HCt := Lib.hid (fun (l : List TRule) (A : Option Addr) (n c lo hi : Nat) (W : World) (hn : n ≤ 17592186044416) h => contains_Rule r l A n c lo hi W hn h)
  have hfl : ∀ (p : DPackage) (W : World), (Instr.field 68 (.agg #[.int .i64 p.p0, .int .i64 p.p1, .int .i64 p.p2, .slice p.A3 p.n3 p.c3, .slice p.A4 p.n4 p.c4, .slice p.A5 p.n5 p.c5, .slice p.A6 p.n6 p.c6, .int .i64 p.p7]) 5).run Try.prog W = .ok (.slice p.A5 p.n5 p.c5) W := fun p W => by kernel_rfl
  unfold mRuledOne
  generalize mPackFor m r.f0 = mp at CP hsz ⊢
  replace hsz := Lib.hid hsz
  change Calls Try.prog _ #[.agg #[.int .i64 r.f0, .int .i64 r.f1, .int .i64 r.f2, .int .i64 r.f3, .int .i64 r.f4, .int .i64 r.f5, .int .i64 r.f6, .int .i64 r.f7], .pointer (some ⟨B, 0, none⟩)] _ _
  clear hr hz hok hc hd h0 hb hr5
  go_enter Try.func74, Try.ntmps74
  go_wp2_with fail
  go_region_held3 (fun w' => w'.cell? ⟨B, 0, none⟩ = some (.int .i64 x.p0) ∧ w'.cell? ⟨B, 1, none⟩ = some (.slice x.A1 x.n1 x.c1) ∧ w'.cell? ⟨B, 2, none⟩ = some (.slice x.A2 x.n2 x.c2) ∧ w'.cell? ⟨B, 3, none⟩ = some (.slice x.A3 x.n3 x.c3) ∧ w'.cell? ⟨B, 4, none⟩ = some (.slice x.A4 x.n4 x.c4) ∧ w'.cell? ⟨B, 5, none⟩ = some (.slice x.A5 x.n5 x.c5) ∧ w'.cell? ⟨B, 6, none⟩ = some (.slice x.A6 x.n6 x.c6) ∧ w'.cell? ⟨B, 7, none⟩ = some (.int .i64 x.p7) ∧ w'.cell? ⟨w.heap.size, 0, none⟩ = some (.int .i64 r.f0) ∧ w'.cell? ⟨w.heap.size, 1, none⟩ = some (.int .i64 r.f1) ∧ w'.cell? ⟨w.heap.size, 2, none⟩ = some (.int .i64 r.f2) ∧ w'.cell? ⟨w.heap.size, 3, none⟩ = some (.int .i64 r.f3) ∧ w'.cell? ⟨w.heap.size, 4, none⟩ = some (.int .i64 r.f4) ∧ w'.cell? ⟨w.heap.size, 5, none⟩ = some (.int .i64 r.f5) ∧ w'.cell? ⟨w.heap.size, 6, none⟩ = some (.int .i64 r.f6) ∧ w'.cell? ⟨w.heap.size, 7, none⟩ = some (.int .i64 r.f7))
    (exact ⟨KB0.out.at_ rfl, KB0.out.at_ rfl, KB0.out.at_ rfl, KB0.out.at_ rfl, KB0.out.at_ rfl, KB0.out.at_ rfl, KB0.out.at_ rfl, KB0.out.at_ rfl, KR0.out.at_ rfl, KR0.out.at_ rfl, KR0.out.at_ rfl, KR0.out.at_ rfl, KR0.out.at_ rfl, KR0.out.at_ rfl, KR0.out.at_ rfl, KR0.out.at_ rfl⟩)
    (first
      | (go_at_call 76; (fail_if_success (have hx := B1)); refine Calls.mono (CP.out _ HB0.out) ?_; rintro e w1 ⟨p, rfl, hpd, hprd, hpc, hpo, B1⟩; (have HPR := Lib.hid (show Rd w1 0 _ 8 p.A5 p.n5 (cRule p.l5) from hprd.2.2.1.2)); (have HPn := Lib.hid (show p.n5 ≤ 17592186044416 by have h1 := hsz.out p hpd; have h2 := (DPackage.rd_lens hprd).2.2.1; omega)); (have HPD := Lib.hid hpd); clear hpd hprd hpc hpo; (have hfp := hfl p); (replace KB0 := Lib.hid (KB0.out.new B1)); (replace KR0 := Lib.hid (KR0.out.new B1)); (replace HB0 := Lib.hid (below_trans HB0.out B1 (Nat.le_refl _))))
      | (go_at_call 75; (fail_if_success (have hx := B2)); refine Calls.mono (HCt.out p.l5 p.A5 p.n5 p.c5 _ _ _ HPn.out HPR.out) ?_; rintro e w2 ⟨rfl, B2⟩; (replace KB0 := Lib.hid (KB0.out.new B2)); (replace KR0 := Lib.hid (KR0.out.new B2)); (replace HB0 := Lib.hid (below_trans HB0.out B2 (Nat.le_refl _)))))
  go_wp2_with fail
  go_ret
  exact ⟨by rw [← HPD.out]; rfl, HB0.out⟩
set_option maxHeartbeats 8000000 in
theorem impl_IsRuledC (x : DBrowser) (m : MBrowser) (lo hi : Nat) (w : World) (hd : x.dat = m) (hz : m.sz ≤ 1048576) (hok : m.ok) (hr : x.rd w lo hi) (hc : x.caps) :
    Calls Try.prog 29 #[.agg #[.int .i64 x.p0, .slice x.A1 x.n1 x.c1, .slice x.A2 x.n2 x.c2, .slice x.A3 x.n3 x.c3, .slice x.A4 x.n4 x.c4, .slice x.A5 x.n5 x.c5, .slice x.A6 x.n6 x.c6, .int .i64 x.p7]] w (Says (.bool (mIsRuled m)) w) := by
  have hmf : ∀ (fn : Fn) (first cap : Array Value) (w : World), (Instr.makeFunc fn first cap).run Try.prog w = .ok (.func fn first cap) w := fun _ _ _ _ => rfl
  have KB := box_new w 40 #[.int .i64 x.p0, .slice x.A1 x.n1 x.c1, .slice x.A2 x.n2 x.c2, .slice x.A3 x.n3 x.c3, .slice x.A4 x.n4 x.c4, .slice x.A5 x.n5 x.c5, .slice x.A6 x.n6 x.c6, .int .i64 x.p7]
  have hn5 : x.n5 ≤ 1048576 := by subst hd; rw [hr.sz] at hz; omega
  have hm : mIsRuled m = x.l5.all (mRuledOne m) := by subst hd; rfl
  rw [hm]
  have HC := Lib.hid (all_Rld (mRuledOne m) #[.pointer (some ⟨w.heap.size, 0, none⟩)] x.l5 x.A5 x.n5 x.c5 lo hi (w.alloc (.cells #[.int .i64 x.p0, .slice x.A1 x.n1 x.c1, .slice x.A2 x.n2 x.c2, .slice x.A3 x.n3 x.c3, .slice x.A4 x.n4 x.c4, .slice x.A5 x.n5 x.c5, .slice x.A6 x.n6 x.c6, .int .i64 x.p7] 40)) (by omega) hc.2.2.1 (hr.alloc _).2.2.2.2.1.2 (clo_Rld x m lo hi w.heap.size (w.alloc (.cells #[.int .i64 x.p0, .slice x.A1 x.n1 x.c1, .slice x.A2 x.n2 x.c2, .slice x.A3 x.n3 x.c3, .slice x.A4 x.n4 x.c4, .slice x.A5 x.n5 x.c5, .slice x.A6 x.n6 x.c6, .int .i64 x.p7] 40)) hd hz hok (hr.alloc _) hc KB))
  generalize x.l5.all (mRuledOne m) = r at HC ⊢
  clear hr hz hok hd hc KB hm
  go_enter Try.func29, Try.ntmps29
  go_wp2_with fail
  refine HC.out.mono ?_
  rintro e w1 ⟨rfl, hb1⟩
  have HB1 := Lib.hid (below_trans ((Below.refl w.heap.size w).alloc (Nat.le_refl _) _) hb1 (by simp))
  clear hb1
  go_wp2_with fail
  go_ret
  exact ⟨rfl, HB1.out⟩

end Go.Proofs.Ytfhoemgpilpapaa
