/- WidestExt of the program. No condition of its own. -/
import Derived.Test.YtfhoemgpilpapaaGreatPow
import Derived.Test.YtfhoemgpilpapaaGreatInst
import Derived.Deep.LoopGhost
import Derived.Deep.RegionHeld3
namespace Go.Proofs.YtfhoemgpilpapaaGreat
open Go Go.ChangeShapes Go.WideShapes Go.ChangeAt Go.RowKit Go.Lib
set_option linter.unusedVariables false
set_option linter.unusedSimpArgs false
set_option maxRecDepth 100000
set_option maxHeartbeats 4000000
/-- The first of those that have most. -/
def wStep (f : Int → Nat) (acc : Option Int) (e : Int) : Option Int := match acc with
  | none => some e
  | some b => if f b < f e then some e else some b
def wBest (f : Int → Nat) (l : List Int) : Option Int := l.foldl (wStep f) none
theorem wBest_one {f : Int → Nat} {l : List Int} {k : Nat} {e : Int} (h : l[k]? = some e) : wBest f (l.take (k + 1)) = wStep f (wBest f (l.take k)) e := by
  unfold wBest
  rw [List.take_add_one, h, Option.toList_some, List.foldl_append]; rfl
def mWidest (m : MBrowser) (s : TSite) : Int := (wBest (fun e => (mPow m e s).length) (mInst m)).getD 0
set_option maxHeartbeats 4000000 in
theorem impl_anyoneW (z : Int) (w : World) : Calls Tryz.prog 55 #[.int .i64 z] w (Says (.bool true) w) := by
  go_enter Tryz.func55, Tryz.ntmps55
  go_wp2_with fail
  go_ret
  exact ⟨rfl, Below.refl _ _⟩
set_option maxHeartbeats 8000000 in
theorem impl_isWider (x : DBrowser) (m : MBrowser) (lo hi : Nat) (s : TSite) (B0 B2 : Nat) (a b : Int) (w : World) (hd : x.dat = m) (hz : m.sz ≤ 1048576) (hok : m.ok) (hr : x.rd w lo hi) (hc : x.caps)
    (h0 : BoxAt w B0 42 #[.int .i64 x.p0, .slice x.A1 x.n1 x.c1, .slice x.A2 x.n2 x.c2, .slice x.A3 x.n3 x.c3, .slice x.A4 x.n4 x.c4, .slice x.A5 x.n5 x.c5, .slice x.A6 x.n6 x.c6, .int .i64 x.p7]) (h2 : BoxAt w B2 44 #[.int .i64 s.f0, .int .i64 s.f1]) :
    Calls Tryz.prog 53 #[.int .i64 a, .int .i64 b, .pointer (some ⟨B0, 0, none⟩), .pointer (some ⟨B2, 0, none⟩)] w (Says (.bool (decide ((mPow m b s).length < (mPow m a s).length))) w) := by
  have CA := Lib.hid (fun W (hb : Below w.heap.size w W) => impl_PowersOfC x m lo hi a s W hd hz hok (hr.new hb) hc)
  have CB := Lib.hid (fun W (hb : Below w.heap.size w W) => impl_PowersOfC x m lo hi b s W hd hz hok (hr.new hb) hc)
  have hla := mPow_len m a s
  have hlb := mPow_len m b s
  generalize mPow m a s = la at CA hla ⊢
  generalize mPow m b s = lb at CB hlb ⊢
  have KB0 := Lib.hid h0.drw
  have KB2 := Lib.hid h2.drw
  have HB0 := Lib.hid (show Below w.heap.size w w.drew from (Below.refl w.heap.size w).drew)
  clear hr hz hok hc hd h0 h2
  go_enter Tryz.func53, Tryz.ntmps53
  go_wp2_with fail
  go_region_held3 (fun w' => w'.cell? ⟨B0, 0, none⟩ = some (.int .i64 x.p0) ∧ w'.cell? ⟨B0, 1, none⟩ = some (.slice x.A1 x.n1 x.c1) ∧ w'.cell? ⟨B0, 2, none⟩ = some (.slice x.A2 x.n2 x.c2) ∧ w'.cell? ⟨B0, 3, none⟩ = some (.slice x.A3 x.n3 x.c3) ∧ w'.cell? ⟨B0, 4, none⟩ = some (.slice x.A4 x.n4 x.c4) ∧ w'.cell? ⟨B0, 5, none⟩ = some (.slice x.A5 x.n5 x.c5) ∧ w'.cell? ⟨B0, 6, none⟩ = some (.slice x.A6 x.n6 x.c6) ∧ w'.cell? ⟨B0, 7, none⟩ = some (.int .i64 x.p7) ∧ w'.cell? ⟨B2, 0, none⟩ = some (.int .i64 s.f0) ∧ w'.cell? ⟨B2, 1, none⟩ = some (.int .i64 s.f1))
    (exact ⟨KB0.out.at_ rfl, KB0.out.at_ rfl, KB0.out.at_ rfl, KB0.out.at_ rfl, KB0.out.at_ rfl, KB0.out.at_ rfl, KB0.out.at_ rfl, KB0.out.at_ rfl, KB2.out.at_ rfl, KB2.out.at_ rfl⟩)
    (first
      | (go_at_call 11; (fail_if_success (have hx := B1)); refine Calls.mono (CA.out _ HB0.out) ?_; rintro e w1 ⟨G1, g1, rfl, _, B1⟩; (replace KB0 := Lib.hid (KB0.out.new B1)); (replace KB2 := Lib.hid (KB2.out.new B1)); (replace HB0 := Lib.hid (below_trans HB0.out B1 (Nat.le_refl _))))
      | (go_at_call 11; (fail_if_success (have hx := B3)); refine Calls.mono (CB.out _ HB0.out) ?_; rintro e w2 ⟨G2, g2, rfl, _, B3⟩; (replace KB0 := Lib.hid (KB0.out.new B3)); (replace KB2 := Lib.hid (KB2.out.new B3)); (replace HB0 := Lib.hid (below_trans HB0.out B3 (Nat.le_refl _)))))
  go_wp2_with fail
  go_ret
  exact ⟨(by first | rfl | (congr 2; simp; done)), HB0.out⟩
set_option maxHeartbeats 8000000 in
theorem foremost_W (f : Int → Nat) (lb : Array Value) (l : List Int) (A : Option Addr) (n c lo hi : Nat) (w : World) (hn : n ≤ 1048576) (hr : Rd w lo hi 1 A n (i64s l))
    (hcl : ∀ W a b, Below w.heap.size w W → Calls Tryz.prog 53 (#[.int .i64 a, .int .i64 b] ++ lb) W (Says (.bool (decide (f b < f a))) W)) :
    Calls Tryz.prog 54 #[.slice A n c, .func (.func 55) #[] #[], .func (.func 53) #[] lb] w (fun e w' => ∃ r : Int, e = .returned (.int .i64 r) ∧ ((wBest f l = none ∧ r = -1) ∨ ∃ (i : Nat) (z : Int), r = (i : Int) ∧ l[i]? = some z ∧ wBest f l = some z) ∧ Below w.heap.size w w') := by
  have HL := Lib.hid (show l.length = n by have := hr.1; simpa [i64s] using this)
  have HR := Lib.hid hr
  have HC := Lib.hid hcl
  have C0 := Lib.hid (fun z W => impl_anyoneW z W)
  clear hr hcl
  go_enter Tryz.func54, Tryz.ntmps54
  go_wp2_with fail
  go_loopg [7, 12] n (fun gg v i wr => ∃ (k : Nat) (r : Int), k ≤ n ∧ n - k ≤ gg ∧ i = .int .i64 k ∧ v = .int .i64 r ∧ -1 ≤ r ∧ r ≤ 1048576 ∧ Hid ((wBest f (l.take k) = none ∧ r = -1) ∨ ∃ (j : Nat) (z : Int), r = (j : Int) ∧ j < n ∧ l[j]? = some z ∧ wBest f (l.take k) = some z) ∧ Hid (Below w.heap.size w wr))
  case atStart => exact ⟨0, -1, Nat.zero_le _, by omega, rfl, rfl, by omega, by omega, Lib.hid (.inl ⟨rfl, rfl⟩), Lib.hid (Below.refl _ _)⟩
  case round =>
    obtain ⟨k, r, hk, hg, rfl, rfl, hr1, hr2, HI, HB⟩ := hrel
    by_cases hlt : k < n
    · obtain ⟨b, off, z, rfl, _, _, hzz, hc⟩ := rd_int (HR.out.new HB.out) hlt
      have cz : wr.cell? ⟨b, off + k, none⟩ = some (.int .i64 z) := hc
      have HE := Lib.hid (wBest_one (f := f) hzz)
      have HZ := Lib.hid hzz
      have Cz := Lib.hid (C0.out z wr)
      clear hc hzz
      rcases HI.out with ⟨hn0, rfl⟩ | ⟨j, y, rfl, hj, hjy, hb⟩
      · have HN := Lib.hid (show wBest f (l.take (k + 1)) = some z by rw [HE.out, hn0]; rfl)
        clear hn0 HI HE
        go_wp2_with (go_at_call 55; refine Cz.out.mono ?_; rintro e w1 ⟨rfl, hb1⟩; (have HB1 := Lib.hid (below_trans HB.out hb1 (Nat.le_refl _))); clear hb1 cz)
        go_roundg (n - (k + 1))
        case measure => omega
        case rel => exact ⟨k + 1, (k : Int), by omega, by omega, by go_num, rfl, by omega, by omega, Lib.hid (.inr ⟨k, z, rfl, hlt, HZ.out, HN.out⟩), HB1⟩
      · have HN := Lib.hid (show wBest f (l.take (k + 1)) = if f y < f z then some z else some y by rw [HE.out, hb]; rfl)
        obtain ⟨b2, off2, y2, hA, _, _, hjj, hcj⟩ := rd_int (HR.out.new HB.out) hj
        simp only [Option.some.injEq, Addr.mk.injEq, and_true] at hA
        obtain ⟨rfl, rfl⟩ := hA
        obtain rfl : y = y2 := Option.some.inj (hjy.symm.trans hjj)
        have HJ := Lib.hid hjy
        have HRr := Lib.hid (HR.out.new HB.out)
        have hj0 : 0 ≤ (j : Int) := by omega
        clear hb HI HE hjy hjj hcj
        have CW := Lib.hid (fun W (hb : Below w.heap.size w W) => HC.out W z y hb)
        cases hd : decide (f y < f z) with
        | true =>
          have hlt2 : f y < f z := by simpa using hd
          rw [hd] at CW
          have HN2 := Lib.hid (show wBest f (l.take (k + 1)) = some z by rw [HN.out, if_pos hlt2])
          clear hd hlt2 HN
          go_wp2_with (first | (go_at_call 55; refine Cz.out.mono ?_; rintro e w1 ⟨rfl, hb1⟩; (have HB1 := Lib.hid (below_trans HB.out hb1 (Nat.le_refl _))); (have cy : w1.cell? ⟨b, off + j, none⟩ = some (.int .i64 y) := by { obtain ⟨b3, off3, y3, hA3, _, _, hj3, hc3⟩ := rd_int (HRr.out.new hb1) hj; simp only [Option.some.injEq, Addr.mk.injEq, and_true] at hA3; obtain ⟨rfl, rfl⟩ := hA3; obtain rfl : y = y3 := Option.some.inj (HJ.out.symm.trans hj3); exact hc3 }); clear hb1 cz) | (go_at_call 53; refine Calls.mono (CW.out _ HB1.out) ?_; rintro e w2 ⟨rfl, hb2⟩; (have HB2 := Lib.hid (below_trans HB1.out hb2 (Nat.le_refl _))); clear hb2 cy))
          go_roundg (n - (k + 1))
          case measure => omega
          case rel => exact ⟨k + 1, (k : Int), by omega, by omega, by go_num, rfl, by omega, by omega, Lib.hid (.inr ⟨k, z, rfl, hlt, HZ.out, HN2.out⟩), HB2⟩
        | false =>
          have hlt2 : ¬ f y < f z := by simpa using hd
          rw [hd] at CW
          have HN2 := Lib.hid (show wBest f (l.take (k + 1)) = some y by rw [HN.out, if_neg hlt2])
          clear hd hlt2 HN
          go_wp2_with (first | (go_at_call 55; refine Cz.out.mono ?_; rintro e w1 ⟨rfl, hb1⟩; (have HB1 := Lib.hid (below_trans HB.out hb1 (Nat.le_refl _))); (have cy : w1.cell? ⟨b, off + j, none⟩ = some (.int .i64 y) := by { obtain ⟨b3, off3, y3, hA3, _, _, hj3, hc3⟩ := rd_int (HRr.out.new hb1) hj; simp only [Option.some.injEq, Addr.mk.injEq, and_true] at hA3; obtain ⟨rfl, rfl⟩ := hA3; obtain rfl : y = y3 := Option.some.inj (HJ.out.symm.trans hj3); exact hc3 }); clear hb1 cz) | (go_at_call 53; refine Calls.mono (CW.out _ HB1.out) ?_; rintro e w2 ⟨rfl, hb2⟩; (have HB2 := Lib.hid (below_trans HB1.out hb2 (Nat.le_refl _))); clear hb2 cy))
          go_roundg (n - (k + 1))
          case measure => omega
          case rel => exact ⟨k + 1, (j : Int), by omega, by omega, by go_num, rfl, by omega, by omega, Lib.hid (.inr ⟨j, y, rfl, hj, HJ.out, HN2.out⟩), HB2⟩
    · obtain rfl : k = n := by omega
      have HI2 := Lib.hid (show ((wBest f l = none ∧ r = -1) ∨ ∃ (i : Nat) (z : Int), r = (i : Int) ∧ l[i]? = some z ∧ wBest f l = some z) by
        have h := HI.out
        rw [List.take_of_length_le (by rw [HL.out]; omega)] at h
        rcases h with h | ⟨j, z, h1, _, h3, h4⟩
        · exact .inl h
        · exact .inr ⟨j, z, h1, h3, h4⟩)
      clear HI
      go_wp2_with fail
      go_ret
      exact ⟨r, rfl, HI2.out, HB.out⟩
set_option maxHeartbeats 8000000 in
theorem impl_WidestExtC (x : DBrowser) (m : MBrowser) (lo hi : Nat) (s : TSite) (w : World) (hd : x.dat = m) (hz : m.sz ≤ 1048576) (hok : m.ok) (hr : x.rd w lo hi) (hc : x.caps) :
    Calls Tryz.prog 18 #[.agg #[.int .i64 x.p0, .slice x.A1 x.n1 x.c1, .slice x.A2 x.n2 x.c2, .slice x.A3 x.n3 x.c3, .slice x.A4 x.n4 x.c4, .slice x.A5 x.n5 x.c5, .slice x.A6 x.n6 x.c6, .int .i64 x.p7], vSite s] w (Says (.int .i64 (mWidest m s)) w) := by
  have hmf : ∀ (fn : Fn) (first cap : Array Value) (w : World), (Instr.makeFunc fn first cap).run Tryz.prog w = .ok (.func fn first cap) w := fun _ _ _ _ => rfl
  have hl1 := mInst_len m
  have HI := Lib.hid (fun W h => impl_Installed x m lo hi W hd hz hok h)
  have KB0 : BoxAt ((w.alloc (.cells #[.int .i64 x.p0, .slice x.A1 x.n1 x.c1, .slice x.A2 x.n2 x.c2, .slice x.A3 x.n3 x.c3, .slice x.A4 x.n4 x.c4, .slice x.A5 x.n5 x.c5, .slice x.A6 x.n6 x.c6, .int .i64 x.p7] 42)).alloc (.cells #[.int .i64 s.f0, .int .i64 s.f1] 44)) w.heap.size 42 #[.int .i64 x.p0, .slice x.A1 x.n1 x.c1, .slice x.A2 x.n2 x.c2, .slice x.A3 x.n3 x.c3, .slice x.A4 x.n4 x.c4, .slice x.A5 x.n5 x.c5, .slice x.A6 x.n6 x.c6, .int .i64 x.p7] := (box_new w 42 #[.int .i64 x.p0, .slice x.A1 x.n1 x.c1, .slice x.A2 x.n2 x.c2, .slice x.A3 x.n3 x.c3, .slice x.A4 x.n4 x.c4, .slice x.A5 x.n5 x.c5, .slice x.A6 x.n6 x.c6, .int .i64 x.p7]).alloc_ _
  have KB2 : BoxAt ((w.alloc (.cells #[.int .i64 x.p0, .slice x.A1 x.n1 x.c1, .slice x.A2 x.n2 x.c2, .slice x.A3 x.n3 x.c3, .slice x.A4 x.n4 x.c4, .slice x.A5 x.n5 x.c5, .slice x.A6 x.n6 x.c6, .int .i64 x.p7] 42)).alloc (.cells #[.int .i64 s.f0, .int .i64 s.f1] 44)) (w.heap.size + 1) 44 #[.int .i64 s.f0, .int .i64 s.f1] := by simpa using box_new (w.alloc (.cells #[.int .i64 x.p0, .slice x.A1 x.n1 x.c1, .slice x.A2 x.n2 x.c2, .slice x.A3 x.n3 x.c3, .slice x.A4 x.n4 x.c4, .slice x.A5 x.n5 x.c5, .slice x.A6 x.n6 x.c6, .int .i64 x.p7] 42)) 44 #[.int .i64 s.f0, .int .i64 s.f1]
  have HR := Lib.hid hr
  have HW := Lib.hid (fun W a b (hb : Below ((w.alloc (.cells #[.int .i64 x.p0, .slice x.A1 x.n1 x.c1, .slice x.A2 x.n2 x.c2, .slice x.A3 x.n3 x.c3, .slice x.A4 x.n4 x.c4, .slice x.A5 x.n5 x.c5, .slice x.A6 x.n6 x.c6, .int .i64 x.p7] 42)).alloc (.cells #[.int .i64 s.f0, .int .i64 s.f1] 44)).heap.size ((w.alloc (.cells #[.int .i64 x.p0, .slice x.A1 x.n1 x.c1, .slice x.A2 x.n2 x.c2, .slice x.A3 x.n3 x.c3, .slice x.A4 x.n4 x.c4, .slice x.A5 x.n5 x.c5, .slice x.A6 x.n6 x.c6, .int .i64 x.p7] 42)).alloc (.cells #[.int .i64 s.f0, .int .i64 s.f1] 44)) W) => impl_isWider x m lo hi s w.heap.size (w.heap.size + 1) a b W hd hz hok (((hr.alloc _).alloc _).new hb) hc (KB0.new hb) (KB2.new hb))
  have hlen : (mInst m).length ≤ 1048576 := by omega
  unfold mWidest
  have HW2 : Hid (∀ W a b, Below ((w.alloc (.cells #[.int .i64 x.p0, .slice x.A1 x.n1 x.c1, .slice x.A2 x.n2 x.c2, .slice x.A3 x.n3 x.c3, .slice x.A4 x.n4 x.c4, .slice x.A5 x.n5 x.c5, .slice x.A6 x.n6 x.c6, .int .i64 x.p7] 42)).alloc (.cells #[.int .i64 s.f0, .int .i64 s.f1] 44)).heap.size ((w.alloc (.cells #[.int .i64 x.p0, .slice x.A1 x.n1 x.c1, .slice x.A2 x.n2 x.c2, .slice x.A3 x.n3 x.c3, .slice x.A4 x.n4 x.c4, .slice x.A5 x.n5 x.c5, .slice x.A6 x.n6 x.c6, .int .i64 x.p7] 42)).alloc (.cells #[.int .i64 s.f0, .int .i64 s.f1] 44)) W → Calls Tryz.prog 53 (#[.int .i64 a, .int .i64 b] ++ #[.pointer (some ⟨w.heap.size, 0, none⟩), .pointer (some ⟨w.heap.size + 1, 0, none⟩)]) W (Says (.bool (decide ((fun e => (mPow m e s).length) b < (fun e => (mPow m e s).length) a))) W)) := HW
  generalize (fun e => (mPow m e s).length) = f at HW2 ⊢
  generalize mInst m = L at HI hlen ⊢
  clear hr hz hok hc hd KB0 KB2 hl1 HW
  go_enter Tryz.func18, Tryz.ntmps18
  go_wp2_with fail
  refine (HI.out _ ((HR.out.alloc _).alloc _)).mono ?_
  rintro e w1 ⟨A1, c1, rfl, hf1, hb1⟩
  have HF1 := Lib.hid hf1.rd
  have HFo := Lib.hid (fun W (hb : Below w1.heap.size w1 W) => foremost_W f #[.pointer (some ⟨w.heap.size, 0, none⟩), .pointer (some ⟨w.heap.size + 1, 0, none⟩)] L A1 L.length c1 _ _ W hlen (hf1.rd.new hb) (fun V a b hV => HW2.out V a b (below_trans (below_trans hb1 hb (Nat.le_refl _)) hV (Nat.le_refl _))))
  have HB1 := Lib.hid (below_trans (((Below.refl w.heap.size w).alloc (Nat.le_refl _) _).alloc (by simp) _) hb1 (by simp <;> omega))
  clear hb1 hf1 HW2
  go_wp2_with fail
  refine (HFo.out _ (Below.refl _ _)).mono ?_
  rintro e w2 ⟨r, rfl, hres, hb2⟩
  have HB2 := Lib.hid (below_trans HB1.out hb2 (Nat.le_refl _))
  have HF2 := Lib.hid (HF1.out.new hb2)
  clear hb2 HFo
  rcases hres with ⟨hnone, rfl⟩ | ⟨i, z, rfl, hiz, hsome⟩
  · replace hnone := Lib.hid hnone
    go_wp2_with fail
    go_ret
    exact ⟨by rw [hnone.out]; rfl, HB2.out⟩
  · replace hsome := Lib.hid hsome
    have hi2 : i < L.length := (List.getElem?_eq_some_iff.1 hiz).1
    obtain ⟨b, off, y, rfl, _, _, hy, hcy⟩ := rd_int HF2.out hi2
    obtain rfl : z = y := Option.some.inj (hiz.symm.trans hy)
    have cy : w2.cell? ⟨b, off + i, none⟩ = some (.int .i64 z) := hcy
    clear hiz hy hcy
    go_wp2_with fail
    go_ret
    exact ⟨by rw [hsome.out]; rfl, HB2.out⟩

end Go.Proofs.YtfhoemgpilpapaaGreat
