/- Installed and PackOf, of the program and of the model. No condition of its own. -/
import Derived.Test.YtodlahmnjadgcaaGreatDBrowser
import Derived.Test.YtodlahmnjadgcaaGreatHoP
import Derived.Test.YtodlahmnjadgcaaGreatIxI
import Derived.Test.YtodlahmnjadgcaaGreatGB
import Derived.Deep.LoopGhost
namespace Go.Proofs.YtodlahmnjadgcaaGreat
open Go Go.ChangeShapes Go.WideShapes Go.ChangeAt Go.RowKit Go.Lib
set_option linter.unusedVariables false
set_option linter.unusedSimpArgs false
set_option maxRecDepth 100000
set_option maxHeartbeats 4000000
theorem one_intB (z : Int) : ∀ u ∈ (#[Value.int .i64 z] : Array Value).toList, u.oneCell' = true := by intro u hu; simp at hu; subst hu; rfl
theorem info_intB : (Tryz.prog.info? 3).map (fun i => (i.zero, i.size, i.bytes)) = some (some (.int .i64 0), 1, 8) := by kernel_rfl
def mInst (m : MBrowser) : List Int := m.l2.map fun p => p.p0
theorem mInst_len (m : MBrowser) : (mInst m).length ≤ m.sz := by unfold mInst; simp only [List.length_map, MBrowser.sz]; omega
theorem mInst_eq (x : DBrowser) : mInst x.dat = x.l2.map fun p => p.p0 := by simp only [mInst, DBrowser.dat, List.map_map]; rfl
theorem mInst_at {x : DBrowser} {k : Nat} {p : DPackage} (h : x.l2[k]? = some p) : (mInst x.dat)[k]? = some p.p0 := by rw [mInst_eq, List.getElem?_map, h]; rfl
def mPackOf (m : MBrowser) (a : Int) : Int := idxP (fun x => decide (a = x)) (mInst m)
set_option maxHeartbeats 8000000 in
theorem impl_holders0 (x : DBrowser) (m : MBrowser) (lo hi : Nat) (w : World) (hd : x.dat = m) (hz : m.sz ≤ 1048576) (hok : m.ok) (hr : x.rd w lo hi) :
    Calls Tryz.prog 180 #[.agg #[.int .i64 x.p0, .slice x.A1 x.n1 x.c1, .slice x.A2 x.n2 x.c2, .slice x.A3 x.n3 x.c3, .slice x.A4 x.n4 x.c4, .slice x.A5 x.n5 x.c5, .slice x.A6 x.n6 x.c6, .int .i64 x.p7], .int .i64 0] w (Makes 3 1 (mInst m).length (i64s (mInst m)) w) := by
  subst hd
  have hzs := hz
  rw [hr.sz] at hz
  have hz' : x.n1 + x.n2 + x.n3 + x.n4 + x.n5 + x.n6 ≤ 1048576 := by omega
  have hlen := hr.2.1.len
  have HC := Lib.hid (fun W h => map_package x.l2 x.A2 x.n2 x.c2 lo hi W (by omega) h)
  have HR := Lib.hid hr.2.1
  rw [← mInst_eq] at HC
  have HLn : (mInst x.dat).length = x.n2 := by rw [mInst_eq, List.length_map, hlen]
  rw [HLn]
  clear HLn
  generalize mInst x.dat = L at HC ⊢
  clear hr hz hzs hok hlen
  go_enter Tryz.func180, Tryz.ntmps180
  go_wp2_with fail
  refine (HC.out _ (HR.out.new ((Below.refl _ _).alloc (Nat.le_refl _) _))).mono ?_
  rintro e w1 ⟨A1, c1, rfl, hf1, hb1⟩
  have HB1 := Lib.hid (below_trans ((Below.refl _ _).alloc (Nat.le_refl _) _) hb1 (by simp))
  have HF1 := Lib.hid (hf1.mono (lo' := w.heap.size) (by simp) (Nat.le_refl _))
  clear hb1 hf1
  go_wp2_with fail
  go_ret
  exact ⟨_, _, rfl, HF1.out, HB1.out⟩
set_option maxHeartbeats 8000000 in
theorem impl_Installed (x : DBrowser) (m : MBrowser) (lo hi : Nat) (w : World) (hd : x.dat = m) (hz : m.sz ≤ 1048576) (hok : m.ok) (hr : x.rd w lo hi) :
    Calls Tryz.prog 128 #[.agg #[.int .i64 x.p0, .slice x.A1 x.n1 x.c1, .slice x.A2 x.n2 x.c2, .slice x.A3 x.n3 x.c3, .slice x.A4 x.n4 x.c4, .slice x.A5 x.n5 x.c5, .slice x.A6 x.n6 x.c6, .int .i64 x.p7]] w (Makes 3 1 (mInst m).length (i64s (mInst m)) w) := by
  have HC := Lib.hid (fun W h => impl_holders0 x m lo hi W hd hz hok h)
  have HR := Lib.hid hr
  generalize mInst m = L at HC ⊢
  clear hr hz hok hd
  go_enter Tryz.func128, Tryz.ntmps128
  go_wp2_with fail
  refine (HC.out _ (HR.out.alloc _)).mono ?_
  rintro e w1 ⟨A1, c1, rfl, hf1, hb1⟩
  have HB1 := Lib.hid (below_trans ((Below.refl _ _).alloc (Nat.le_refl _) _) hb1 (by simp))
  have HF1 := Lib.hid (hf1.mono (lo' := w.heap.size) (by simp) (Nat.le_refl _))
  clear hb1 hf1
  go_wp2_with fail
  go_ret
  exact ⟨_, _, rfl, HF1.out, HB1.out⟩
set_option maxHeartbeats 8000000 in
theorem impl_PackOf (x : DBrowser) (m : MBrowser) (lo hi : Nat) (a : Int) (w : World) (hd : x.dat = m) (hz : m.sz ≤ 1048576) (hok : m.ok) (hr : x.rd w lo hi) :
    Calls Tryz.prog 70 #[.agg #[.int .i64 x.p0, .slice x.A1 x.n1 x.c1, .slice x.A2 x.n2 x.c2, .slice x.A3 x.n3 x.c3, .slice x.A4 x.n4 x.c4, .slice x.A5 x.n5 x.c5, .slice x.A6 x.n6 x.c6, .int .i64 x.p7], .int .i64 a] w (Says (.int .i64 (mPackOf m a)) w) := by
  have hl1 := mInst_len m
  have HC := Lib.hid (fun W h => impl_Installed x m lo hi W hd hz hok h)
  have HI := Lib.hid (fun (W : World) A n c lo hi (hn : n ≤ 17592186044416) h => index_Int a (mInst m) A n c lo hi W hn h)
  have HR := Lib.hid hr
  have hlen : (mInst m).length ≤ 1048576 := by omega
  unfold mPackOf
  generalize mInst m = L at HC HI hlen ⊢
  generalize idxP (fun x => decide (a = x)) L = r at HI ⊢
  clear hr hz hok hd hl1
  go_enter Tryz.func70, Tryz.ntmps70
  go_wp2_with fail
  refine (HC.out _ (HR.out.alloc _)).mono ?_
  rintro e w1 ⟨A1, c1, rfl, hf1, hb1⟩
  have HB1 := Lib.hid (below_trans ((Below.refl _ _).alloc (Nat.le_refl _) _) hb1 (by simp))
  have HF1 := Lib.hid hf1.rd
  clear hb1 hf1
  go_wp2_with fail
  refine (HI.out _ A1 _ c1 _ _ (by omega) HF1.out).mono ?_
  rintro e w2 ⟨rfl, hb2⟩
  have HB2 := Lib.hid (below_trans HB1.out hb2 (Nat.le_refl _))
  clear hb2
  go_wp2_with fail
  go_ret
  exact ⟨rfl, HB2.out⟩
set_option maxHeartbeats 8000000 in
theorem spec_PackOf (x : DBrowser) (m : MBrowser) (lo hi : Nat) (a : Int) (w : World) (hd : x.dat = m) (hz : m.sz ≤ 1048576) (hok : m.ok) (hr : x.rd w lo hi) :
    Calls Tryz.prog 66 #[.agg #[.int .i64 x.p0, .slice x.A1 x.n1 x.c1, .slice x.A2 x.n2 x.c2, .slice x.A3 x.n3 x.c3, .slice x.A4 x.n4 x.c4, .slice x.A5 x.n5 x.c5, .slice x.A6 x.n6 x.c6, .int .i64 x.p7], .int .i64 a] w (Says (.int .i64 (mPackOf m a)) w) := by
  subst hd
  have hzs := hz
  rw [hr.sz] at hz
  have hz' : x.n1 + x.n2 + x.n3 + x.n4 + x.n5 + x.n6 ≤ 1048576 := by omega
  have HL := Lib.hid hr.2.1.len
  have HR := Lib.hid hr.2.1
  have HV := Lib.hid (fun k p (h : x.l2[k]? = some p) => mInst_at h)
  have HLn := Lib.hid (show (mInst x.dat).length = x.n2 by rw [mInst_eq, List.length_map, hr.2.1.len])
  unfold mPackOf
  generalize mInst x.dat = L at HV HLn ⊢
  generalize hP : (fun x : Int => decide (a = x)) = P
  have HP := Lib.hid hP
  have hn2 : x.n2 ≤ 1048576 := by omega
  clear hr hz hzs hok hP
  have KB0 := Lib.hid (box_new w 42 #[.int .i64 x.p0, .slice x.A1 x.n1 x.c1, .slice x.A2 x.n2 x.c2, .slice x.A3 x.n3 x.c3, .slice x.A4 x.n4 x.c4, .slice x.A5 x.n5 x.c5, .slice x.A6 x.n6 x.c6, .int .i64 x.p7])
  go_enter Tryz.func66, Tryz.ntmps66
  go_wp2_with fail
  go_loopg [5] x.n2 (fun gg i wr => ∃ k : Nat, k ≤ x.n2 ∧ x.n2 - k ≤ gg ∧ i = .int .i64 k ∧ Hid ((L.take k).any P = false) ∧ Hid (BoxAt wr w.heap.size 42 #[.int .i64 x.p0, .slice x.A1 x.n1 x.c1, .slice x.A2 x.n2 x.c2, .slice x.A3 x.n3 x.c3, .slice x.A4 x.n4 x.c4, .slice x.A5 x.n5 x.c5, .slice x.A6 x.n6 x.c6, .int .i64 x.p7]) ∧ Hid (Below w.heap.size w wr))
  case atStart => exact ⟨0, Nat.zero_le _, by omega, rfl, Lib.hid (by simp), KB0, Lib.hid ((Below.refl _ _).alloc (Nat.le_refl _) _)⟩
  case round =>
    obtain ⟨k, hk, hg, rfl, HF, KB, HB⟩ := hrel
    have k2 := KB.out.at_ (j := 2) rfl
    by_cases hlt : k < x.n2
    · obtain ⟨b, off, p, hA, _, _, hzz, hc⟩ := rd_elem DPackage.len (HR.out.new HB.out).2.1 HL.out hlt
      rw [hA] at k2
      have c0 : wr.cell? ⟨b, off + k * 8, none⟩ = some (.int .i64 p.p0) := hc 0 _ rfl
      have HVp := Lib.hid (HV.out k p hzz)
      have HPx := Lib.hid (show decide (a = p.p0) = P p.p0 by rw [← HP.out])
      clear hzz hc hA
      by_cases e : p.p0 = a
      · have HE := Lib.hid (idxP_hit HF.out HVp.out (by rw [← HPx.out, decide_eq_true e.symm]))
        have ht : (p.p0 == a) = true := by simp [e]
        have ht' : decide (p.p0 = a) = true := by simp [e]
        clear e
        go_wp2_with fail
        go_ret
        exact ⟨by rw [HE.out]; rfl, by first | exact below_dN HB.out _ | exact HB.out⟩
      · have HE := Lib.hid (any_step HF.out HVp.out (by rw [← HPx.out, decide_eq_false (fun h => e h.symm)]))
        have ht : (p.p0 == a) = false := by simp [e]
        have ht' : decide (p.p0 = a) = false := by simp [e]
        clear e
        go_wp2_with fail
        go_roundg (x.n2 - (k + 1))
        case measure => omega
        case rel => exact ⟨k + 1, by omega, by omega, by go_num, HE, by first | exact KB | exact Lib.hid KB.out, by first | exact HB | exact Lib.hid (below_dN HB.out _)⟩
    · obtain rfl : k = x.n2 := by omega
      have HE := Lib.hid (idxP_miss (by have := HF.out; rw [List.take_of_length_le (by have := HLn.out; omega)] at this; exact this))
      go_wp2_with fail
      go_ret
      exact ⟨by rw [HE.out]; rfl, by first | exact below_dN HB.out _ | exact HB.out⟩

end Go.Proofs.YtodlahmnjadgcaaGreat
