/- hasTab, and the tab of a number. No condition of its own. -/
import Derived.Test.YtodlahmnjadgcaaGreatDBrowser
import Derived.Test.YtodlahmnjadgcaaGreatIn
import Derived.Deep.LoopGhost
namespace Go.Proofs.YtodlahmnjadgcaaGreat
open Go Go.ChangeShapes Go.WideShapes Go.ChangeAt Go.RowKit Go.Lib
set_option linter.unusedVariables false
set_option linter.unusedSimpArgs false
set_option maxRecDepth 100000
set_option maxHeartbeats 4000000
/-- The tab of this number. -/
def mTabAt (m : MBrowser) (a : Int) : Option MTab := if 0 ≤ a ∧ a < (m.l1.length : Int) then m.l1[a.toNat]? else none
theorem mTabAt_no {x : DBrowser} {a : Int} (h : inR a 0 ((x.l1.length : Int) - 1) = false) : mTabAt x.dat a = none := by
  unfold mTabAt
  have hl : x.dat.l1.length = x.l1.length := by simp [DBrowser.dat]
  rw [hl, if_neg (fun q => by rw [inR_true.2 ⟨q.1, by omega⟩] at h; cases h)]
theorem mTabAt_yes {x : DBrowser} {a : Int} (h : inR a 0 ((x.l1.length : Int) - 1) = true) : ∃ (k : Nat) (t : DTab), a = (k : Int) ∧ k < x.l1.length ∧ x.l1[k]? = some t ∧ mTabAt x.dat a = some t.dat := by
  have h2 := inR_true.1 h
  have hl : x.dat.l1.length = x.l1.length := by simp [DBrowser.dat]
  obtain ⟨k, rfl⟩ : ∃ k : Nat, a = (k : Int) := ⟨a.toNat, by omega⟩
  have hk : k < x.l1.length := by omega
  refine ⟨k, _, rfl, hk, List.getElem?_eq_getElem hk, ?_⟩
  unfold mTabAt
  rw [hl, if_pos ⟨by omega, by omega⟩]
  simp only [Int.toNat_natCast, DBrowser.dat, List.getElem?_map, List.getElem?_eq_getElem hk]; rfl
set_option maxHeartbeats 8000000 in
theorem impl_hasTab (x : DBrowser) (m : MBrowser) (lo hi : Nat) (a : Int) (w : World) (hd : x.dat = m) (hz : m.sz ≤ 1048576) (hok : m.ok) (hr : x.rd w lo hi) :
    Calls Tryz.prog 69 #[.agg #[.int .i64 x.p0, .slice x.A1 x.n1 x.c1, .slice x.A2 x.n2 x.c2, .slice x.A3 x.n3 x.c3, .slice x.A4 x.n4 x.c4, .slice x.A5 x.n5 x.c5, .slice x.A6 x.n6 x.c6, .int .i64 x.p7], .int .i64 a] w (Says (.bool (inR a 0 ((m.l1.length : Int) - 1))) w) := by
  subst hd
  have hzs := hz
  rw [hr.sz] at hz
  have hz' : x.n1 + x.n2 + x.n3 + x.n4 + x.n5 + x.n6 ≤ 1048576 := by omega
  have hl : (x.dat.l1.length : Int) = x.n1 := by have := hr.1.len; simp [DBrowser.dat]; omega
  rw [hl]
  have C0 := Lib.hid (fun W => says_of_same (impl_in a 0 ((x.n1 : Int) - 1) W))
  generalize inR a 0 ((x.n1 : Int) - 1) = r at C0 ⊢
  have hn1 : x.n1 ≤ 1048576 := by omega
  clear hr hz hzs hok hl
  go_enter Tryz.func69, Tryz.ntmps69
  go_wp2_with fail
  refine (C0.out _).mono ?_
  rintro e w1 ⟨rfl, hb1⟩
  have HB1 := Lib.hid (below_trans ((Below.refl w.heap.size w).alloc (Nat.le_refl _) _) hb1 (by simp))
  clear hb1
  go_wp2_with fail
  go_ret
  exact ⟨rfl, HB1.out⟩

end Go.Proofs.YtodlahmnjadgcaaGreat
