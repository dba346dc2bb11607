/- EqualBrowsers of the model. No condition of its own. -/
import Derived.Test.YtfhoemgpilpapaaEqbI
import Derived.Deep.LoopGhost
import Derived.Deep.RegionHeld3
namespace Go.Proofs.Ytfhoemgpilpapaa
open Go Go.ChangeShapes Go.WideShapes Go.ChangeAt Go.RowKit Go.Lib
set_option linter.unusedVariables false
set_option linter.unusedSimpArgs false
set_option maxRecDepth 100000
set_option maxHeartbeats 4000000
set_option maxHeartbeats 16000000 in
theorem spec_EqualBrowsers (x : DBrowser) (m : MBrowser) (lo hi : Nat) (y : DBrowser) (m' : MBrowser) (lo' hi' : Nat) (w : World) (hd : x.dat = m) (hz : m.sz ≤ 1048576) (hok : m.ok) (hr : x.rd w lo hi) (hd' : y.dat = m') (hz' : m'.sz ≤ 1048576) (hok' : m'.ok) (hr' : y.rd w lo' hi') :
    Calls Try.prog 36 #[.agg #[.int .i64 x.p0, .slice x.A1 x.n1 x.c1, .slice x.A2 x.n2 x.c2, .slice x.A3 x.n3 x.c3, .slice x.A4 x.n4 x.c4, .slice x.A5 x.n5 x.c5, .slice x.A6 x.n6 x.c6, .int .i64 x.p7], .agg #[.int .i64 y.p0, .slice y.A1 y.n1 y.c1, .slice y.A2 y.n2 y.c2, .slice y.A3 y.n3 y.c3, .slice y.A4 y.n4 y.c4, .slice y.A5 y.n5 y.c5, .slice y.A6 y.n6 y.c6, .int .i64 y.p7]] w (Says (.bool (mEqBr m m')) w) := by
  subst hd
  subst hd'
  have hl := hr.len
  have hl' := hr'.len
  have hn : x.n1 + x.n2 + x.n3 + x.n4 + x.n5 + x.n6 ≤ 1048576 := by have h := hz; rw [hr.sz] at h; omega
  have hn' : y.n1 + y.n2 + y.n3 + y.n4 + y.n5 + y.n6 ≤ 1048576 := by have h := hz'; rw [hr'.sz] at h; omega
  have KA := Lib.hid (show BoxAt ((w.alloc (.cells #[.int .i64 x.p0, .slice x.A1 x.n1 x.c1, .slice x.A2 x.n2 x.c2, .slice x.A3 x.n3 x.c3, .slice x.A4 x.n4 x.c4, .slice x.A5 x.n5 x.c5, .slice x.A6 x.n6 x.c6, .int .i64 x.p7] 40)).alloc (.cells #[.int .i64 y.p0, .slice y.A1 y.n1 y.c1, .slice y.A2 y.n2 y.c2, .slice y.A3 y.n3 y.c3, .slice y.A4 y.n4 y.c4, .slice y.A5 y.n5 y.c5, .slice y.A6 y.n6 y.c6, .int .i64 y.p7] 40)) w.heap.size 40 #[.int .i64 x.p0, .slice x.A1 x.n1 x.c1, .slice x.A2 x.n2 x.c2, .slice x.A3 x.n3 x.c3, .slice x.A4 x.n4 x.c4, .slice x.A5 x.n5 x.c5, .slice x.A6 x.n6 x.c6, .int .i64 x.p7] from (box_new w 40 #[.int .i64 x.p0, .slice x.A1 x.n1 x.c1, .slice x.A2 x.n2 x.c2, .slice x.A3 x.n3 x.c3, .slice x.A4 x.n4 x.c4, .slice x.A5 x.n5 x.c5, .slice x.A6 x.n6 x.c6, .int .i64 x.p7]).alloc_ _)
  have KC := Lib.hid (show BoxAt ((w.alloc (.cells #[.int .i64 x.p0, .slice x.A1 x.n1 x.c1, .slice x.A2 x.n2 x.c2, .slice x.A3 x.n3 x.c3, .slice x.A4 x.n4 x.c4, .slice x.A5 x.n5 x.c5, .slice x.A6 x.n6 x.c6, .int .i64 x.p7] 40)).alloc (.cells #[.int .i64 y.p0, .slice y.A1 y.n1 y.c1, .slice y.A2 y.n2 y.c2, .slice y.A3 y.n3 y.c3, .slice y.A4 y.n4 y.c4, .slice y.A5 y.n5 y.c5, .slice y.A6 y.n6 y.c6, .int .i64 y.p7] 40)) (w.heap.size + 1) 40 #[.int .i64 y.p0, .slice y.A1 y.n1 y.c1, .slice y.A2 y.n2 y.c2, .slice y.A3 y.n3 y.c3, .slice y.A4 y.n4 y.c4, .slice y.A5 y.n5 y.c5, .slice y.A6 y.n6 y.c6, .int .i64 y.p7] by simpa using box_new (w.alloc (.cells #[.int .i64 x.p0, .slice x.A1 x.n1 x.c1, .slice x.A2 x.n2 x.c2, .slice x.A3 x.n3 x.c3, .slice x.A4 x.n4 x.c4, .slice x.A5 x.n5 x.c5, .slice x.A6 x.n6 x.c6, .int .i64 x.p7] 40)) 40 #[.int .i64 y.p0, .slice y.A1 y.n1 y.c1, .slice y.A2 y.n2 y.c2, .slice y.A3 y.n3 y.c3, .slice y.A4 y.n4 y.c4, .slice y.A5 y.n5 y.c5, .slice y.A6 y.n6 y.c6, .int .i64 y.p7])
  have HB := Lib.hid (show Below w.heap.size w ((w.alloc (.cells #[.int .i64 x.p0, .slice x.A1 x.n1 x.c1, .slice x.A2 x.n2 x.c2, .slice x.A3 x.n3 x.c3, .slice x.A4 x.n4 x.c4, .slice x.A5 x.n5 x.c5, .slice x.A6 x.n6 x.c6, .int .i64 x.p7] 40)).alloc (.cells #[.int .i64 y.p0, .slice y.A1 y.n1 y.c1, .slice y.A2 y.n2 y.c2, .slice y.A3 y.n3 y.c3, .slice y.A4 y.n4 y.c4, .slice y.A5 y.n5 y.c5, .slice y.A6 y.n6 y.c6, .int .i64 y.p7] 40)) from ((Below.refl _ _).alloc (Nat.le_refl _) _).alloc (by simp) _)
  change Calls _ _ _ _ (Says (.bool ((x.p0 == y.p0) && (x.p7 == y.p7) && eqL mEqTabD (x.l1.map DTab.dat) (y.l1.map DTab.dat) && eqL mEqPackageD (x.l2.map DPackage.dat) (y.l2.map DPackage.dat) && decide (x.l3 = y.l3) && decide (x.l4 = y.l4) && decide (x.l5 = y.l5) && decide (x.l6 = y.l6))) w)
  have D0 := Lib.hid (fun W (hb : Below w.heap.size w W) => says_of_quiet (speq_Grant x.l3 y.l3 x.A3 y.A3 x.n3 y.n3 x.c3 y.c3 lo hi lo' hi' W (by omega) (by omega) (hr.2.2.1.2.new hb) (hr'.2.2.1.2.new hb)))
  have D1 := Lib.hid (fun W (hb : Below w.heap.size w W) => spec_EqualRules x.l5 x.A5 x.n5 x.c5 lo hi y.l5 y.A5 y.n5 y.c5 lo' hi' W (by omega) (hr.2.2.2.2.1.2.new hb) hok.2.2.2.2.2.1 (by omega) (hr'.2.2.2.2.1.2.new hb) hok'.2.2.2.2.2.1)
  have D2 := Lib.hid (fun W (hb : Below w.heap.size w W) => spec_EqualStores x.l6 x.A6 x.n6 x.c6 lo hi y.l6 y.A6 y.n6 y.c6 lo' hi' W (by omega) (hr.2.2.2.2.2.2.new hb) hok.2.2.2.2.2.2.1 (by omega) (hr'.2.2.2.2.2.2.new hb) hok'.2.2.2.2.2.2.1)
  have HRx := Lib.hid hr
  have HRy := Lib.hid hr'
  have HLx := Lib.hid hl
  have HLy := Lib.hid hl'
  have HZx1 := Lib.hid (fun t ht => And.intro (br_tabs hz t ht) (br_tabok hok t ht))
  have HZy1 := Lib.hid (fun t ht => And.intro (br_tabs hz' t ht) (br_tabok hok' t ht))
  have HZx2 := Lib.hid (fun t ht => And.intro (br_packs hz t ht) (br_packok hok t ht))
  have HZy2 := Lib.hid (fun t ht => And.intro (br_packs hz' t ht) (br_packok hok' t ht))
  generalize hq3 : decide (x.l3 = y.l3) = q3 at D0 ⊢
  generalize hq5 : decide (x.l5 = y.l5) = q5 at D1 ⊢
  generalize hq6 : decide (x.l6 = y.l6) = q6 at D2 ⊢
  clear hq3 hq5 hq6
  generalize hE : ((x.p0 == y.p0) && (x.p7 == y.p7) && eqL mEqTabD (x.l1.map DTab.dat) (y.l1.map DTab.dat) && eqL mEqPackageD (x.l2.map DPackage.dat) (y.l2.map DPackage.dat) && q3 && decide (x.l4 = y.l4) && q5 && q6) = E
  have HM1 := Lib.hid (fun (k : Nat) (t u : DTab) (h1 : x.l1[k]? = some t) (h2 : y.l1[k]? = some u) (h : mEqTabD t.dat u.dat = false) => show E = false by
    rw [← hE, eqL_no (f := mEqTabD) (l := x.l1.map DTab.dat) (l' := y.l1.map DTab.dat) (k := k) (by rw [List.getElem?_map, h1]; rfl) (by rw [List.getElem?_map, h2]; rfl) h]; simp)
  have HM2 := Lib.hid (fun (k : Nat) (t u : DPackage) (h1 : x.l2[k]? = some t) (h2 : y.l2[k]? = some u) (h : mEqPackageD t.dat u.dat = false) => show E = false by
    rw [← hE, eqL_no (f := mEqPackageD) (l := x.l2.map DPackage.dat) (l' := y.l2.map DPackage.dat) (k := k) (by rw [List.getElem?_map, h1]; rfl) (by rw [List.getElem?_map, h2]; rfl) h]; simp)
  have HM4 := Lib.hid (fun (k : Nat) (t u : TLimit) (h1 : x.l4[k]? = some t) (h2 : y.l4[k]? = some u) (h : ¬ t = u) => show E = false by
    have hne : ¬ x.l4 = y.l4 := fun e => h (by rw [e, h2] at h1; exact (Option.some.inj h1).symm)
    rw [← hE, decide_eq_false hne]; simp)
  by_cases e0 : x.p0 = y.p0
  · by_cases e7 : x.p7 = y.p7
    · by_cases en1 : x.n1 = y.n1
      · by_cases en2 : x.n2 = y.n2
        · by_cases en4 : x.n4 = y.n4
          · have HAll := Lib.hid (fun (h1 : ∀ (j : Nat) (t u : DTab), j < x.n1 → x.l1[j]? = some t → y.l1[j]? = some u → mEqTabD t.dat u.dat = true) (h2 : ∀ (j : Nat) (t u : DPackage), j < x.n2 → x.l2[j]? = some t → y.l2[j]? = some u → mEqPackageD t.dat u.dat = true) (h4 : x.l4 = y.l4) => show E = (q3 && q5 && q6) by
              rw [← hE, eqL_yes (f := mEqTabD) (l := x.l1.map DTab.dat) (l' := y.l1.map DTab.dat) (by simp; omega) (fun k a b ha hb => by
                rw [List.getElem?_map] at ha hb
                obtain ⟨a', h3, rfl⟩ := Option.map_eq_some_iff.1 ha
                obtain ⟨b', h4, rfl⟩ := Option.map_eq_some_iff.1 hb
                exact h1 k a' b' (by have := (List.getElem?_eq_some_iff.1 h3).1; omega) h3 h4),
                eqL_yes (f := mEqPackageD) (l := x.l2.map DPackage.dat) (l' := y.l2.map DPackage.dat) (by simp; omega) (fun k a b ha hb => by
                rw [List.getElem?_map] at ha hb
                obtain ⟨a', h3, rfl⟩ := Option.map_eq_some_iff.1 ha
                obtain ⟨b', h4, rfl⟩ := Option.map_eq_some_iff.1 hb
                exact h2 k a' b' (by have := (List.getElem?_eq_some_iff.1 h3).1; omega) h3 h4), decide_eq_true h4]
              simp [e0, e7])
            have f0 : (x.p0 != y.p0) = false := by simp [e0]
            have f7 : (x.p7 != y.p7) = false := by simp [e7]
            have f1 : ((x.n1 : Int) != (y.n1 : Int)) = false := by simp; omega
            have f2 : ((x.n2 : Int) != (y.n2 : Int)) = false := by simp; omega
            have f4 : ((x.n4 : Int) != (y.n4 : Int)) = false := by simp; omega
            clear hr hr' hok hok' hz hz' hl hl' hE e0 e7
            replace en1 : x.n1 - y.n1 = 0 ∧ y.n1 - x.n1 = 0 := by omega
            replace en2 : x.n2 - y.n2 = 0 ∧ y.n2 - x.n2 = 0 := by omega
            replace en4 : x.n4 - y.n4 = 0 ∧ y.n4 - x.n4 = 0 := by omega
            go_enter Try.func36, Try.ntmps36
            go_wp2_with fail
            go_loopg [5] x.n1 (fun gg i wr => ∃ k : Nat, k ≤ x.n1 ∧ x.n1 - k ≤ gg ∧ i = .int .i64 k ∧ Hid (∀ (j : Nat) (t u : DTab), j < k → x.l1[j]? = some t → y.l1[j]? = some u → mEqTabD t.dat u.dat = true) ∧ Hid (BoxAt wr w.heap.size 40 #[.int .i64 x.p0, .slice x.A1 x.n1 x.c1, .slice x.A2 x.n2 x.c2, .slice x.A3 x.n3 x.c3, .slice x.A4 x.n4 x.c4, .slice x.A5 x.n5 x.c5, .slice x.A6 x.n6 x.c6, .int .i64 x.p7]) ∧ Hid (BoxAt wr (w.heap.size + 1) 40 #[.int .i64 y.p0, .slice y.A1 y.n1 y.c1, .slice y.A2 y.n2 y.c2, .slice y.A3 y.n3 y.c3, .slice y.A4 y.n4 y.c4, .slice y.A5 y.n5 y.c5, .slice y.A6 y.n6 y.c6, .int .i64 y.p7]) ∧ Hid (Below w.heap.size w wr))
            case atStart => exact ⟨0, Nat.zero_le _, by omega, rfl, Lib.hid (fun j _ _ h => absurd h (by omega)), by first | exact KA | exact Lib.hid KA.out, by first | exact KC | exact Lib.hid KC.out, by first | exact HB | exact Lib.hid (below_dN HB.out _)⟩
            case round =>
              obtain ⟨k, hk, hg, rfl, HF1, KA, KC, HB⟩ := hrel
              have a0 : wr.cell? ⟨w.heap.size, 0, none⟩ = some (.int .i64 x.p0) := KA.out.at_ rfl
              have a1 : wr.cell? ⟨w.heap.size, 1, none⟩ = some (.slice x.A1 x.n1 x.c1) := KA.out.at_ rfl
              have a2 : wr.cell? ⟨w.heap.size, 2, none⟩ = some (.slice x.A2 x.n2 x.c2) := KA.out.at_ rfl
              have a3 : wr.cell? ⟨w.heap.size, 3, none⟩ = some (.slice x.A3 x.n3 x.c3) := KA.out.at_ rfl
              have a4 : wr.cell? ⟨w.heap.size, 4, none⟩ = some (.slice x.A4 x.n4 x.c4) := KA.out.at_ rfl
              have a5 : wr.cell? ⟨w.heap.size, 5, none⟩ = some (.slice x.A5 x.n5 x.c5) := KA.out.at_ rfl
              have a6 : wr.cell? ⟨w.heap.size, 6, none⟩ = some (.slice x.A6 x.n6 x.c6) := KA.out.at_ rfl
              have a7 : wr.cell? ⟨w.heap.size, 7, none⟩ = some (.int .i64 x.p7) := KA.out.at_ rfl
              have b0 : wr.cell? ⟨w.heap.size + 1, 0, none⟩ = some (.int .i64 y.p0) := KC.out.at_ rfl
              have b1 : wr.cell? ⟨w.heap.size + 1, 1, none⟩ = some (.slice y.A1 y.n1 y.c1) := KC.out.at_ rfl
              have b2 : wr.cell? ⟨w.heap.size + 1, 2, none⟩ = some (.slice y.A2 y.n2 y.c2) := KC.out.at_ rfl
              have b3 : wr.cell? ⟨w.heap.size + 1, 3, none⟩ = some (.slice y.A3 y.n3 y.c3) := KC.out.at_ rfl
              have b4 : wr.cell? ⟨w.heap.size + 1, 4, none⟩ = some (.slice y.A4 y.n4 y.c4) := KC.out.at_ rfl
              have b5 : wr.cell? ⟨w.heap.size + 1, 5, none⟩ = some (.slice y.A5 y.n5 y.c5) := KC.out.at_ rfl
              have b6 : wr.cell? ⟨w.heap.size + 1, 6, none⟩ = some (.slice y.A6 y.n6 y.c6) := KC.out.at_ rfl
              have b7 : wr.cell? ⟨w.heap.size + 1, 7, none⟩ = some (.int .i64 y.p7) := KC.out.at_ rfl
              by_cases hlt : k < x.n1
              · have hlt' : k < y.n1 := by omega
                obtain ⟨b, off, t, hA, _, _, hzz, hc⟩ := rd_elem DTab.len (HRx.out.new HB.out).1.2.1 HLx.out.1 hlt
                obtain ⟨b', off', u, hA', _, _, hzz', hc'⟩ := rd_elem DTab.len (HRy.out.new HB.out).1.2.1 HLy.out.1 hlt'
                rw [hA] at a1
                rw [hA'] at b1
                have hx := (HRx.out.new HB.out).1.at_ hzz
                have hy := (HRy.out.new HB.out).1.at_ hzz'
                have hxz := HZx1.out t (List.mem_of_getElem? hzz)
                have hyz := HZy1.out u (List.mem_of_getElem? hzz')
                have hxs := hxz.1
                have hys := hyz.1
                rw [DTab.rd_sz hx] at hxs
                rw [DTab.rd_sz hy] at hys
                have HC := Lib.hid (fun W (hb : Below wr.heap.size wr W) => spec_EqualTabs t.s0 t.l1 t.A1 t.n1 t.c1 _ _ t.l2 t.A2 t.n2 t.c2 _ _ t.l3 t.A3 t.n3 t.c3 _ _ t.p4 u.s0 u.l1 u.A1 u.n1 u.c1 _ _ u.l2 u.A2 u.n2 u.c2 _ _ u.l3 u.A3 u.n3 u.c3 _ _ u.p4 W (show t.n1 ≤ 1048576 by omega) ((DTab.rd_keep hx fun b _ _ h3 => hb.block b h3).1.2) (Lib.hid hxz.2.2.1) (show t.n2 ≤ 1048576 by omega) ((DTab.rd_keep hx fun b _ _ h3 => hb.block b h3).2.1.2) (Lib.hid hxz.2.2.2.1) (show t.n3 ≤ 1048576 by omega) ((DTab.rd_keep hx fun b _ _ h3 => hb.block b h3).2.2.2) (Lib.hid hxz.2.2.2.2.1) (show u.n1 ≤ 1048576 by omega) ((DTab.rd_keep hy fun b _ _ h3 => hb.block b h3).1.2) (Lib.hid hyz.2.2.1) (show u.n2 ≤ 1048576 by omega) ((DTab.rd_keep hy fun b _ _ h3 => hb.block b h3).2.1.2) (Lib.hid hyz.2.2.2.1) (show u.n3 ≤ 1048576 by omega) ((DTab.rd_keep hy fun b _ _ h3 => hb.block b h3).2.2.2) (Lib.hid hyz.2.2.2.2.1))
                have c0 : wr.cell? ⟨b, off + k * 6, none⟩ = some (.int .i64 t.s0.f0) := hc 0 _ rfl
                have c1 : wr.cell? ⟨b, off + k * 6 + 1, none⟩ = some (.int .i64 t.s0.f1) := hc 1 _ rfl
                have c2 : wr.cell? ⟨b, off + k * 6 + 2, none⟩ = some (.slice t.A1 t.n1 t.c1) := hc 2 _ rfl
                have c3 : wr.cell? ⟨b, off + k * 6 + 3, none⟩ = some (.slice t.A2 t.n2 t.c2) := hc 3 _ rfl
                have c4 : wr.cell? ⟨b, off + k * 6 + 4, none⟩ = some (.slice t.A3 t.n3 t.c3) := hc 4 _ rfl
                have c5 : wr.cell? ⟨b, off + k * 6 + 5, none⟩ = some (.int .i64 t.p4) := hc 5 _ rfl
                have e0 : wr.cell? ⟨b', off' + k * 6, none⟩ = some (.int .i64 u.s0.f0) := hc' 0 _ rfl
                have e1 : wr.cell? ⟨b', off' + k * 6 + 1, none⟩ = some (.int .i64 u.s0.f1) := hc' 1 _ rfl
                have e2 : wr.cell? ⟨b', off' + k * 6 + 2, none⟩ = some (.slice u.A1 u.n1 u.c1) := hc' 2 _ rfl
                have e3 : wr.cell? ⟨b', off' + k * 6 + 3, none⟩ = some (.slice u.A2 u.n2 u.c2) := hc' 3 _ rfl
                have e4 : wr.cell? ⟨b', off' + k * 6 + 4, none⟩ = some (.slice u.A3 u.n3 u.c3) := hc' 4 _ rfl
                have e5 : wr.cell? ⟨b', off' + k * 6 + 5, none⟩ = some (.int .i64 u.p4) := hc' 5 _ rfl
                change Hid (∀ W, Below wr.heap.size wr W → Calls _ _ _ W (Says (.bool (mEqTabD t.dat u.dat)) W)) at HC
                have HNk := Lib.hid (HM1.out k t u hzz hzz')
                have HFk := Lib.hid (fun (h : mEqTabD t.dat u.dat = true) => (fun j t' u' (hj : j < k + 1) (h1 : x.l1[j]? = some t') (h2 : y.l1[j]? = some u') => show mEqTabD t'.dat u'.dat = true from by
                  by_cases e : j = k
                  · subst e
                    rw [hzz] at h1; rw [hzz'] at h2
                    rw [← Option.some.inj h1, ← Option.some.inj h2]; exact h
                  · exact HF1.out j t' u' (by omega) h1 h2))
                have KA2 := Lib.hid (show BoxAt wr.drew w.heap.size 40 #[.int .i64 x.p0, .slice (some ⟨b, off, none⟩) x.n1 x.c1, .slice x.A2 x.n2 x.c2, .slice x.A3 x.n3 x.c3, .slice x.A4 x.n4 x.c4, .slice x.A5 x.n5 x.c5, .slice x.A6 x.n6 x.c6, .int .i64 x.p7] by have h := KA.out.drw; rwa [hA] at h)
                have KC2 := Lib.hid (show BoxAt wr.drew (w.heap.size + 1) 40 #[.int .i64 y.p0, .slice (some ⟨b', off', none⟩) y.n1 y.c1, .slice y.A2 y.n2 y.c2, .slice y.A3 y.n3 y.c3, .slice y.A4 y.n4 y.c4, .slice y.A5 y.n5 y.c5, .slice y.A6 y.n6 y.c6, .int .i64 y.p7] by have h := KC.out.drw; rwa [hA'] at h)
                replace hA := Lib.hid hA
                replace hA' := Lib.hid hA'
                clear hzz hzz' hc hc' hx hy hxz hyz hxs hys
                generalize mEqTabD t.dat u.dat = q at HC HNk HFk
                go_wp2_with fail
                clear a0 b0 a1 b1 a2 b2 a3 b3 a4 b4 a5 b5 a6 b6 a7 b7
                refine wp_region_held_drew (S := fun w' => BoxAt w' w.heap.size 40 #[.int .i64 x.p0, .slice (some ⟨b, off, none⟩) x.n1 x.c1, .slice x.A2 x.n2 x.c2, .slice x.A3 x.n3 x.c3, .slice x.A4 x.n4 x.c4, .slice x.A5 x.n5 x.c5, .slice x.A6 x.n6 x.c6, .int .i64 x.p7] ∧ BoxAt w' (w.heap.size + 1) 40 #[.int .i64 y.p0, .slice (some ⟨b', off', none⟩) y.n1 y.c1, .slice y.A2 y.n2 y.c2, .slice y.A3 y.n3 y.c3, .slice y.A4 y.n4 y.c4, .slice y.A5 y.n5 y.c5, .slice y.A6 y.n6 y.c6, .int .i64 y.p7] ∧ Below wr.heap.size wr w') (by kernel_rfl) ?_ (fun hHeld => ?_)
                · exact ⟨KA2.out, KC2.out, (Below.refl _ _).drew⟩
                refine wpAnyH_take (i := 0) (oi := ⟨some 54, _, _, _, _, _⟩) (v := ?_) rfl (by kernel_rfl) (by kernel_rfl) (by kernel_rfl) (fun _ _ _ h => h) (Or.inl ⟨by kernel_rfl, ?_⟩) hHeld ?_
                rotate_left
                focus (intro W hS; have c0_0 := (hS.1).at_ (j := 0) rfl; have c0_1 := (hS.1).at_ (j := 1) rfl; have c0_2 := (hS.1).at_ (j := 2) rfl; have c0_3 := (hS.1).at_ (j := 3) rfl; have c0_4 := (hS.1).at_ (j := 4) rfl; have c0_5 := (hS.1).at_ (j := 5) rfl; have c0_6 := (hS.1).at_ (j := 6) rfl; have c0_7 := (hS.1).at_ (j := 7) rfl; have c1_0 := (hS.2.1).at_ (j := 0) rfl; have c1_1 := (hS.2.1).at_ (j := 1) rfl; have c1_2 := (hS.2.1).at_ (j := 2) rfl; have c1_3 := (hS.2.1).at_ (j := 3) rfl; have c1_4 := (hS.2.1).at_ (j := 4) rfl; have c1_5 := (hS.2.1).at_ (j := 5) rfl; have c1_6 := (hS.2.1).at_ (j := 6) rfl; have c1_7 := (hS.2.1).at_ (j := 7) rfl; have c0' := cell_nw hS.2.2 c0; have c1' := cell_nw hS.2.2 c1; have c2' := cell_nw hS.2.2 c2; have c3' := cell_nw hS.2.2 c3; have c4' := cell_nw hS.2.2 c4; have c5' := cell_nw hS.2.2 c5; have e0' := cell_nw hS.2.2 e0; have e1' := cell_nw hS.2.2 e1; have e2' := cell_nw hS.2.2 e2; have e3' := cell_nw hS.2.2 e3; have e4' := cell_nw hS.2.2 e4; have e5' := cell_nw hS.2.2 e5; clear hS; first | (go_simp; done) | (go_simp; with_reducible rfl))
                try simp only [Act.put, List.setIfInBounds_toArray, List.set_cons_zero, List.set_cons_succ]
                refine wpAnyH_take (i := 1) (oi := ⟨some 55, _, _, _, _, _⟩) (v := ?_) rfl (by kernel_rfl) (by kernel_rfl) (by kernel_rfl) (fun _ _ _ h => h) (Or.inl ⟨by kernel_rfl, ?_⟩) hHeld ?_
                rotate_left
                focus (intro W hS; have c0_0 := (hS.1).at_ (j := 0) rfl; have c0_1 := (hS.1).at_ (j := 1) rfl; have c0_2 := (hS.1).at_ (j := 2) rfl; have c0_3 := (hS.1).at_ (j := 3) rfl; have c0_4 := (hS.1).at_ (j := 4) rfl; have c0_5 := (hS.1).at_ (j := 5) rfl; have c0_6 := (hS.1).at_ (j := 6) rfl; have c0_7 := (hS.1).at_ (j := 7) rfl; have c1_0 := (hS.2.1).at_ (j := 0) rfl; have c1_1 := (hS.2.1).at_ (j := 1) rfl; have c1_2 := (hS.2.1).at_ (j := 2) rfl; have c1_3 := (hS.2.1).at_ (j := 3) rfl; have c1_4 := (hS.2.1).at_ (j := 4) rfl; have c1_5 := (hS.2.1).at_ (j := 5) rfl; have c1_6 := (hS.2.1).at_ (j := 6) rfl; have c1_7 := (hS.2.1).at_ (j := 7) rfl; have c0' := cell_nw hS.2.2 c0; have c1' := cell_nw hS.2.2 c1; have c2' := cell_nw hS.2.2 c2; have c3' := cell_nw hS.2.2 c3; have c4' := cell_nw hS.2.2 c4; have c5' := cell_nw hS.2.2 c5; have e0' := cell_nw hS.2.2 e0; have e1' := cell_nw hS.2.2 e1; have e2' := cell_nw hS.2.2 e2; have e3' := cell_nw hS.2.2 e3; have e4' := cell_nw hS.2.2 e4; have e5' := cell_nw hS.2.2 e5; clear hS; first | (go_simp; done) | (go_simp; with_reducible rfl))
                try simp only [Act.put, List.setIfInBounds_toArray, List.set_cons_zero, List.set_cons_succ]
                refine wpAnyH_take (i := 2) (oi := ⟨some 56, _, _, _, _, _⟩) (v := ?_) rfl (by kernel_rfl) (by kernel_rfl) (by kernel_rfl) (fun _ _ _ h => h) (Or.inl ⟨by kernel_rfl, ?_⟩) hHeld ?_
                rotate_left
                focus (intro W hS; have c0_0 := (hS.1).at_ (j := 0) rfl; have c0_1 := (hS.1).at_ (j := 1) rfl; have c0_2 := (hS.1).at_ (j := 2) rfl; have c0_3 := (hS.1).at_ (j := 3) rfl; have c0_4 := (hS.1).at_ (j := 4) rfl; have c0_5 := (hS.1).at_ (j := 5) rfl; have c0_6 := (hS.1).at_ (j := 6) rfl; have c0_7 := (hS.1).at_ (j := 7) rfl; have c1_0 := (hS.2.1).at_ (j := 0) rfl; have c1_1 := (hS.2.1).at_ (j := 1) rfl; have c1_2 := (hS.2.1).at_ (j := 2) rfl; have c1_3 := (hS.2.1).at_ (j := 3) rfl; have c1_4 := (hS.2.1).at_ (j := 4) rfl; have c1_5 := (hS.2.1).at_ (j := 5) rfl; have c1_6 := (hS.2.1).at_ (j := 6) rfl; have c1_7 := (hS.2.1).at_ (j := 7) rfl; have c0' := cell_nw hS.2.2 c0; have c1' := cell_nw hS.2.2 c1; have c2' := cell_nw hS.2.2 c2; have c3' := cell_nw hS.2.2 c3; have c4' := cell_nw hS.2.2 c4; have c5' := cell_nw hS.2.2 c5; have e0' := cell_nw hS.2.2 e0; have e1' := cell_nw hS.2.2 e1; have e2' := cell_nw hS.2.2 e2; have e3' := cell_nw hS.2.2 e3; have e4' := cell_nw hS.2.2 e4; have e5' := cell_nw hS.2.2 e5; clear hS; first | (go_simp; done) | (go_simp; with_reducible rfl))
                try simp only [Act.put, List.setIfInBounds_toArray, List.set_cons_zero, List.set_cons_succ]
                refine wpAnyH_take (i := 3) (oi := ⟨some 57, _, _, _, _, _⟩) (v := ?_) rfl (by kernel_rfl) (by kernel_rfl) (by kernel_rfl) (fun _ _ _ h => h) (Or.inl ⟨by kernel_rfl, ?_⟩) hHeld ?_
                rotate_left
                focus (intro W hS; have c0_0 := (hS.1).at_ (j := 0) rfl; have c0_1 := (hS.1).at_ (j := 1) rfl; have c0_2 := (hS.1).at_ (j := 2) rfl; have c0_3 := (hS.1).at_ (j := 3) rfl; have c0_4 := (hS.1).at_ (j := 4) rfl; have c0_5 := (hS.1).at_ (j := 5) rfl; have c0_6 := (hS.1).at_ (j := 6) rfl; have c0_7 := (hS.1).at_ (j := 7) rfl; have c1_0 := (hS.2.1).at_ (j := 0) rfl; have c1_1 := (hS.2.1).at_ (j := 1) rfl; have c1_2 := (hS.2.1).at_ (j := 2) rfl; have c1_3 := (hS.2.1).at_ (j := 3) rfl; have c1_4 := (hS.2.1).at_ (j := 4) rfl; have c1_5 := (hS.2.1).at_ (j := 5) rfl; have c1_6 := (hS.2.1).at_ (j := 6) rfl; have c1_7 := (hS.2.1).at_ (j := 7) rfl; have c0' := cell_nw hS.2.2 c0; have c1' := cell_nw hS.2.2 c1; have c2' := cell_nw hS.2.2 c2; have c3' := cell_nw hS.2.2 c3; have c4' := cell_nw hS.2.2 c4; have c5' := cell_nw hS.2.2 c5; have e0' := cell_nw hS.2.2 e0; have e1' := cell_nw hS.2.2 e1; have e2' := cell_nw hS.2.2 e2; have e3' := cell_nw hS.2.2 e3; have e4' := cell_nw hS.2.2 e4; have e5' := cell_nw hS.2.2 e5; clear hS; first | (go_simp; done) | (go_simp; with_reducible rfl))
                try simp only [Act.put, List.setIfInBounds_toArray, List.set_cons_zero, List.set_cons_succ]
                refine wpAnyH_take (i := 4) (oi := ⟨some 58, _, _, _, _, _⟩) (v := ?_) rfl (by kernel_rfl) (by kernel_rfl) (by kernel_rfl) (fun _ _ _ h => h) (Or.inl ⟨by kernel_rfl, ?_⟩) hHeld ?_
                rotate_left
                focus (intro W hS; have c0_0 := (hS.1).at_ (j := 0) rfl; have c0_1 := (hS.1).at_ (j := 1) rfl; have c0_2 := (hS.1).at_ (j := 2) rfl; have c0_3 := (hS.1).at_ (j := 3) rfl; have c0_4 := (hS.1).at_ (j := 4) rfl; have c0_5 := (hS.1).at_ (j := 5) rfl; have c0_6 := (hS.1).at_ (j := 6) rfl; have c0_7 := (hS.1).at_ (j := 7) rfl; have c1_0 := (hS.2.1).at_ (j := 0) rfl; have c1_1 := (hS.2.1).at_ (j := 1) rfl; have c1_2 := (hS.2.1).at_ (j := 2) rfl; have c1_3 := (hS.2.1).at_ (j := 3) rfl; have c1_4 := (hS.2.1).at_ (j := 4) rfl; have c1_5 := (hS.2.1).at_ (j := 5) rfl; have c1_6 := (hS.2.1).at_ (j := 6) rfl; have c1_7 := (hS.2.1).at_ (j := 7) rfl; have c0' := cell_nw hS.2.2 c0; have c1' := cell_nw hS.2.2 c1; have c2' := cell_nw hS.2.2 c2; have c3' := cell_nw hS.2.2 c3; have c4' := cell_nw hS.2.2 c4; have c5' := cell_nw hS.2.2 c5; have e0' := cell_nw hS.2.2 e0; have e1' := cell_nw hS.2.2 e1; have e2' := cell_nw hS.2.2 e2; have e3' := cell_nw hS.2.2 e3; have e4' := cell_nw hS.2.2 e4; have e5' := cell_nw hS.2.2 e5; clear hS; first | (go_simp; done) | (go_simp; with_reducible rfl))
                try simp only [Act.put, List.setIfInBounds_toArray, List.set_cons_zero, List.set_cons_succ]
                refine wpAnyH_take (i := 5) (oi := ⟨some 59, _, _, _, _, _⟩) (v := ?_) rfl (by kernel_rfl) (by kernel_rfl) (by kernel_rfl) (fun _ _ _ h => h) (Or.inl ⟨by kernel_rfl, ?_⟩) hHeld ?_
                rotate_left
                focus (intro W hS; have c0_0 := (hS.1).at_ (j := 0) rfl; have c0_1 := (hS.1).at_ (j := 1) rfl; have c0_2 := (hS.1).at_ (j := 2) rfl; have c0_3 := (hS.1).at_ (j := 3) rfl; have c0_4 := (hS.1).at_ (j := 4) rfl; have c0_5 := (hS.1).at_ (j := 5) rfl; have c0_6 := (hS.1).at_ (j := 6) rfl; have c0_7 := (hS.1).at_ (j := 7) rfl; have c1_0 := (hS.2.1).at_ (j := 0) rfl; have c1_1 := (hS.2.1).at_ (j := 1) rfl; have c1_2 := (hS.2.1).at_ (j := 2) rfl; have c1_3 := (hS.2.1).at_ (j := 3) rfl; have c1_4 := (hS.2.1).at_ (j := 4) rfl; have c1_5 := (hS.2.1).at_ (j := 5) rfl; have c1_6 := (hS.2.1).at_ (j := 6) rfl; have c1_7 := (hS.2.1).at_ (j := 7) rfl; have c0' := cell_nw hS.2.2 c0; have c1' := cell_nw hS.2.2 c1; have c2' := cell_nw hS.2.2 c2; have c3' := cell_nw hS.2.2 c3; have c4' := cell_nw hS.2.2 c4; have c5' := cell_nw hS.2.2 c5; have e0' := cell_nw hS.2.2 e0; have e1' := cell_nw hS.2.2 e1; have e2' := cell_nw hS.2.2 e2; have e3' := cell_nw hS.2.2 e3; have e4' := cell_nw hS.2.2 e4; have e5' := cell_nw hS.2.2 e5; clear hS; first | (go_simp; done) | (go_simp; with_reducible rfl))
                try simp only [Act.put, List.setIfInBounds_toArray, List.set_cons_zero, List.set_cons_succ]
                refine wpAnyH_take (i := 6) (oi := ⟨some 60, _, _, _, _, _⟩) (v := ?_) rfl (by kernel_rfl) (by kernel_rfl) (by kernel_rfl) (fun _ _ _ h => h) (Or.inl ⟨by kernel_rfl, ?_⟩) hHeld ?_
                rotate_left
                focus (intro W hS; have c0_0 := (hS.1).at_ (j := 0) rfl; have c0_1 := (hS.1).at_ (j := 1) rfl; have c0_2 := (hS.1).at_ (j := 2) rfl; have c0_3 := (hS.1).at_ (j := 3) rfl; have c0_4 := (hS.1).at_ (j := 4) rfl; have c0_5 := (hS.1).at_ (j := 5) rfl; have c0_6 := (hS.1).at_ (j := 6) rfl; have c0_7 := (hS.1).at_ (j := 7) rfl; have c1_0 := (hS.2.1).at_ (j := 0) rfl; have c1_1 := (hS.2.1).at_ (j := 1) rfl; have c1_2 := (hS.2.1).at_ (j := 2) rfl; have c1_3 := (hS.2.1).at_ (j := 3) rfl; have c1_4 := (hS.2.1).at_ (j := 4) rfl; have c1_5 := (hS.2.1).at_ (j := 5) rfl; have c1_6 := (hS.2.1).at_ (j := 6) rfl; have c1_7 := (hS.2.1).at_ (j := 7) rfl; have c0' := cell_nw hS.2.2 c0; have c1' := cell_nw hS.2.2 c1; have c2' := cell_nw hS.2.2 c2; have c3' := cell_nw hS.2.2 c3; have c4' := cell_nw hS.2.2 c4; have c5' := cell_nw hS.2.2 c5; have e0' := cell_nw hS.2.2 e0; have e1' := cell_nw hS.2.2 e1; have e2' := cell_nw hS.2.2 e2; have e3' := cell_nw hS.2.2 e3; have e4' := cell_nw hS.2.2 e4; have e5' := cell_nw hS.2.2 e5; clear hS; first | (go_simp; done) | (go_simp; with_reducible rfl))
                try simp only [Act.put, List.setIfInBounds_toArray, List.set_cons_zero, List.set_cons_succ]
                refine wpAnyH_take (i := 7) (oi := ⟨some 61, _, _, _, _, _⟩) (v := ?_) rfl (by kernel_rfl) (by kernel_rfl) (by kernel_rfl) (fun _ _ _ h => h) (Or.inl ⟨by kernel_rfl, ?_⟩) hHeld ?_
                rotate_left
                focus (intro W hS; have c0_0 := (hS.1).at_ (j := 0) rfl; have c0_1 := (hS.1).at_ (j := 1) rfl; have c0_2 := (hS.1).at_ (j := 2) rfl; have c0_3 := (hS.1).at_ (j := 3) rfl; have c0_4 := (hS.1).at_ (j := 4) rfl; have c0_5 := (hS.1).at_ (j := 5) rfl; have c0_6 := (hS.1).at_ (j := 6) rfl; have c0_7 := (hS.1).at_ (j := 7) rfl; have c1_0 := (hS.2.1).at_ (j := 0) rfl; have c1_1 := (hS.2.1).at_ (j := 1) rfl; have c1_2 := (hS.2.1).at_ (j := 2) rfl; have c1_3 := (hS.2.1).at_ (j := 3) rfl; have c1_4 := (hS.2.1).at_ (j := 4) rfl; have c1_5 := (hS.2.1).at_ (j := 5) rfl; have c1_6 := (hS.2.1).at_ (j := 6) rfl; have c1_7 := (hS.2.1).at_ (j := 7) rfl; have c0' := cell_nw hS.2.2 c0; have c1' := cell_nw hS.2.2 c1; have c2' := cell_nw hS.2.2 c2; have c3' := cell_nw hS.2.2 c3; have c4' := cell_nw hS.2.2 c4; have c5' := cell_nw hS.2.2 c5; have e0' := cell_nw hS.2.2 e0; have e1' := cell_nw hS.2.2 e1; have e2' := cell_nw hS.2.2 e2; have e3' := cell_nw hS.2.2 e3; have e4' := cell_nw hS.2.2 e4; have e5' := cell_nw hS.2.2 e5; clear hS; first | (go_simp; done) | (go_simp; with_reducible rfl))
                try simp only [Act.put, List.setIfInBounds_toArray, List.set_cons_zero, List.set_cons_succ]
                refine wpAnyH_take (i := 8) (oi := ⟨some 62, _, _, _, _, _⟩) (v := ?_) rfl (by kernel_rfl) (by kernel_rfl) (by kernel_rfl) (fun _ _ _ h => h) (Or.inl ⟨by kernel_rfl, ?_⟩) hHeld ?_
                rotate_left
                focus (intro W hS; have c0_0 := (hS.1).at_ (j := 0) rfl; have c0_1 := (hS.1).at_ (j := 1) rfl; have c0_2 := (hS.1).at_ (j := 2) rfl; have c0_3 := (hS.1).at_ (j := 3) rfl; have c0_4 := (hS.1).at_ (j := 4) rfl; have c0_5 := (hS.1).at_ (j := 5) rfl; have c0_6 := (hS.1).at_ (j := 6) rfl; have c0_7 := (hS.1).at_ (j := 7) rfl; have c1_0 := (hS.2.1).at_ (j := 0) rfl; have c1_1 := (hS.2.1).at_ (j := 1) rfl; have c1_2 := (hS.2.1).at_ (j := 2) rfl; have c1_3 := (hS.2.1).at_ (j := 3) rfl; have c1_4 := (hS.2.1).at_ (j := 4) rfl; have c1_5 := (hS.2.1).at_ (j := 5) rfl; have c1_6 := (hS.2.1).at_ (j := 6) rfl; have c1_7 := (hS.2.1).at_ (j := 7) rfl; have c0' := cell_nw hS.2.2 c0; have c1' := cell_nw hS.2.2 c1; have c2' := cell_nw hS.2.2 c2; have c3' := cell_nw hS.2.2 c3; have c4' := cell_nw hS.2.2 c4; have c5' := cell_nw hS.2.2 c5; have e0' := cell_nw hS.2.2 e0; have e1' := cell_nw hS.2.2 e1; have e2' := cell_nw hS.2.2 e2; have e3' := cell_nw hS.2.2 e3; have e4' := cell_nw hS.2.2 e4; have e5' := cell_nw hS.2.2 e5; clear hS; first | (go_simp; done) | (go_simp; with_reducible rfl))
                try simp only [Act.put, List.setIfInBounds_toArray, List.set_cons_zero, List.set_cons_succ]
                refine wpAnyH_take (i := 9) (oi := ⟨some 63, _, _, _, _, _⟩) (v := ?_) rfl (by kernel_rfl) (by kernel_rfl) (by kernel_rfl) (fun _ _ _ h => h) (Or.inl ⟨by kernel_rfl, ?_⟩) hHeld ?_
                rotate_left
                focus (intro W hS; have c0_0 := (hS.1).at_ (j := 0) rfl; have c0_1 := (hS.1).at_ (j := 1) rfl; have c0_2 := (hS.1).at_ (j := 2) rfl; have c0_3 := (hS.1).at_ (j := 3) rfl; have c0_4 := (hS.1).at_ (j := 4) rfl; have c0_5 := (hS.1).at_ (j := 5) rfl; have c0_6 := (hS.1).at_ (j := 6) rfl; have c0_7 := (hS.1).at_ (j := 7) rfl; have c1_0 := (hS.2.1).at_ (j := 0) rfl; have c1_1 := (hS.2.1).at_ (j := 1) rfl; have c1_2 := (hS.2.1).at_ (j := 2) rfl; have c1_3 := (hS.2.1).at_ (j := 3) rfl; have c1_4 := (hS.2.1).at_ (j := 4) rfl; have c1_5 := (hS.2.1).at_ (j := 5) rfl; have c1_6 := (hS.2.1).at_ (j := 6) rfl; have c1_7 := (hS.2.1).at_ (j := 7) rfl; have c0' := cell_nw hS.2.2 c0; have c1' := cell_nw hS.2.2 c1; have c2' := cell_nw hS.2.2 c2; have c3' := cell_nw hS.2.2 c3; have c4' := cell_nw hS.2.2 c4; have c5' := cell_nw hS.2.2 c5; have e0' := cell_nw hS.2.2 e0; have e1' := cell_nw hS.2.2 e1; have e2' := cell_nw hS.2.2 e2; have e3' := cell_nw hS.2.2 e3; have e4' := cell_nw hS.2.2 e4; have e5' := cell_nw hS.2.2 e5; clear hS; first | (go_simp; done) | (go_simp; with_reducible rfl))
                try simp only [Act.put, List.setIfInBounds_toArray, List.set_cons_zero, List.set_cons_succ]
                refine wpAnyH_ready (rs := [10]) (by kernel_rfl) (by simp) ?_
                refine AllReadyH.cons (o := ⟨some 64, _, _, _, _, _⟩) rfl (fun K hK => ?_) AllReadyH.nil
                go_simp
                refine Calls.mono (HC.out _ hHeld.2.2) ?_
                rintro e x1 ⟨rfl, hb1⟩
                refine hK.out _ _ ⟨hHeld.1.new hb1, hHeld.2.1.new hb1, below_trans hHeld.2.2 hb1 (Nat.le_refl _)⟩ (fun hHeld' => ?_)
                clear hK K hHeld hb1
                have hHeld := hHeld'
                clear hHeld'
                try simp only [Act.put, List.setIfInBounds_toArray, List.set_cons_zero, List.set_cons_succ]
                refine wpAnyH_take (i := 11) (oi := ⟨some 65, _, _, _, _, _⟩) (v := ?_) rfl (by kernel_rfl) (by kernel_rfl) (by kernel_rfl) (fun _ _ _ h => h) (Or.inl ⟨by kernel_rfl, ?_⟩) hHeld ?_
                rotate_left
                focus (intro W hS; have c0_0 := (hS.1).at_ (j := 0) rfl; have c0_1 := (hS.1).at_ (j := 1) rfl; have c0_2 := (hS.1).at_ (j := 2) rfl; have c0_3 := (hS.1).at_ (j := 3) rfl; have c0_4 := (hS.1).at_ (j := 4) rfl; have c0_5 := (hS.1).at_ (j := 5) rfl; have c0_6 := (hS.1).at_ (j := 6) rfl; have c0_7 := (hS.1).at_ (j := 7) rfl; have c1_0 := (hS.2.1).at_ (j := 0) rfl; have c1_1 := (hS.2.1).at_ (j := 1) rfl; have c1_2 := (hS.2.1).at_ (j := 2) rfl; have c1_3 := (hS.2.1).at_ (j := 3) rfl; have c1_4 := (hS.2.1).at_ (j := 4) rfl; have c1_5 := (hS.2.1).at_ (j := 5) rfl; have c1_6 := (hS.2.1).at_ (j := 6) rfl; have c1_7 := (hS.2.1).at_ (j := 7) rfl; have c0' := cell_nw hS.2.2 c0; have c1' := cell_nw hS.2.2 c1; have c2' := cell_nw hS.2.2 c2; have c3' := cell_nw hS.2.2 c3; have c4' := cell_nw hS.2.2 c4; have c5' := cell_nw hS.2.2 c5; have e0' := cell_nw hS.2.2 e0; have e1' := cell_nw hS.2.2 e1; have e2' := cell_nw hS.2.2 e2; have e3' := cell_nw hS.2.2 e3; have e4' := cell_nw hS.2.2 e4; have e5' := cell_nw hS.2.2 e5; clear hS; first | (go_simp; done) | (go_simp; with_reducible rfl))
                try simp only [Act.put, List.setIfInBounds_toArray, List.set_cons_zero, List.set_cons_succ]
                refine wpAnyH_done (by kernel_rfl) ?_ _
                skip
                have KA3 := Lib.hid (show BoxAt x1 w.heap.size 40 #[.int .i64 x.p0, .slice x.A1 x.n1 x.c1, .slice x.A2 x.n2 x.c2, .slice x.A3 x.n3 x.c3, .slice x.A4 x.n4 x.c4, .slice x.A5 x.n5 x.c5, .slice x.A6 x.n6 x.c6, .int .i64 x.p7] by rw [hA.out]; exact hHeld.1)
                have KC3 := Lib.hid (show BoxAt x1 (w.heap.size + 1) 40 #[.int .i64 y.p0, .slice y.A1 y.n1 y.c1, .slice y.A2 y.n2 y.c2, .slice y.A3 y.n3 y.c3, .slice y.A4 y.n4 y.c4, .slice y.A5 y.n5 y.c5, .slice y.A6 y.n6 y.c6, .int .i64 y.p7] by rw [hA'.out]; exact hHeld.2.1)
                have HB3 := Lib.hid (below_trans HB.out hHeld.2.2 (Nat.le_refl _))
                clear hHeld c0 e0 c1 e1 c2 e2 c3 e3 c4 e4 c5 e5
                cases q
                · have HE := Lib.hid (HNk.out rfl)
                  go_wp2_with fail
                  go_ret
                  exact ⟨by rw [HE.out]; rfl, HB3.out⟩
                · have HE := Lib.hid (HFk.out rfl)
                  go_wp2_with fail
                  go_roundg (x.n1 - (k + 1))
                  case measure => omega
                  case rel => exact ⟨k + 1, by omega, by omega, by go_num, HE, KA3, KC3, HB3⟩
              · obtain rfl : k = x.n1 := by omega
                go_wp2_with fail
                clear a0 b0 a1 b1 a2 b2 a3 b3 a4 b4 a5 b5 a6 b6 a7 b7
                go_loopg [6] x.n2 (fun gg i wr => ∃ k : Nat, k ≤ x.n2 ∧ x.n2 - k ≤ gg ∧ i = .int .i64 k ∧ Hid (∀ (j : Nat) (t u : DPackage), j < k → x.l2[j]? = some t → y.l2[j]? = some u → mEqPackageD t.dat u.dat = true) ∧ Hid (BoxAt wr w.heap.size 40 #[.int .i64 x.p0, .slice x.A1 x.n1 x.c1, .slice x.A2 x.n2 x.c2, .slice x.A3 x.n3 x.c3, .slice x.A4 x.n4 x.c4, .slice x.A5 x.n5 x.c5, .slice x.A6 x.n6 x.c6, .int .i64 x.p7]) ∧ Hid (BoxAt wr (w.heap.size + 1) 40 #[.int .i64 y.p0, .slice y.A1 y.n1 y.c1, .slice y.A2 y.n2 y.c2, .slice y.A3 y.n3 y.c3, .slice y.A4 y.n4 y.c4, .slice y.A5 y.n5 y.c5, .slice y.A6 y.n6 y.c6, .int .i64 y.p7]) ∧ Hid (Below w.heap.size w wr))
                case atStart => exact ⟨0, Nat.zero_le _, by omega, rfl, Lib.hid (fun j _ _ h => absurd h (by omega)), by first | exact KA | exact Lib.hid KA.out, by first | exact KC | exact Lib.hid KC.out, by first | exact HB | exact Lib.hid (below_dN HB.out _)⟩
                case round =>
                  obtain ⟨k, hk, hg, rfl, HF2, KA, KC, HB⟩ := hrel
                  have a0 : wr.cell? ⟨w.heap.size, 0, none⟩ = some (.int .i64 x.p0) := KA.out.at_ rfl
                  have a1 : wr.cell? ⟨w.heap.size, 1, none⟩ = some (.slice x.A1 x.n1 x.c1) := KA.out.at_ rfl
                  have a2 : wr.cell? ⟨w.heap.size, 2, none⟩ = some (.slice x.A2 x.n2 x.c2) := KA.out.at_ rfl
                  have a3 : wr.cell? ⟨w.heap.size, 3, none⟩ = some (.slice x.A3 x.n3 x.c3) := KA.out.at_ rfl
                  have a4 : wr.cell? ⟨w.heap.size, 4, none⟩ = some (.slice x.A4 x.n4 x.c4) := KA.out.at_ rfl
                  have a5 : wr.cell? ⟨w.heap.size, 5, none⟩ = some (.slice x.A5 x.n5 x.c5) := KA.out.at_ rfl
                  have a6 : wr.cell? ⟨w.heap.size, 6, none⟩ = some (.slice x.A6 x.n6 x.c6) := KA.out.at_ rfl
                  have a7 : wr.cell? ⟨w.heap.size, 7, none⟩ = some (.int .i64 x.p7) := KA.out.at_ rfl
                  have b0 : wr.cell? ⟨w.heap.size + 1, 0, none⟩ = some (.int .i64 y.p0) := KC.out.at_ rfl
                  have b1 : wr.cell? ⟨w.heap.size + 1, 1, none⟩ = some (.slice y.A1 y.n1 y.c1) := KC.out.at_ rfl
                  have b2 : wr.cell? ⟨w.heap.size + 1, 2, none⟩ = some (.slice y.A2 y.n2 y.c2) := KC.out.at_ rfl
                  have b3 : wr.cell? ⟨w.heap.size + 1, 3, none⟩ = some (.slice y.A3 y.n3 y.c3) := KC.out.at_ rfl
                  have b4 : wr.cell? ⟨w.heap.size + 1, 4, none⟩ = some (.slice y.A4 y.n4 y.c4) := KC.out.at_ rfl
                  have b5 : wr.cell? ⟨w.heap.size + 1, 5, none⟩ = some (.slice y.A5 y.n5 y.c5) := KC.out.at_ rfl
                  have b6 : wr.cell? ⟨w.heap.size + 1, 6, none⟩ = some (.slice y.A6 y.n6 y.c6) := KC.out.at_ rfl
                  have b7 : wr.cell? ⟨w.heap.size + 1, 7, none⟩ = some (.int .i64 y.p7) := KC.out.at_ rfl
                  by_cases hlt : k < x.n2
                  · have hlt' : k < y.n2 := by omega
                    obtain ⟨b, off, t, hA, _, _, hzz, hc⟩ := rd_elem DPackage.len (HRx.out.new HB.out).2.1.2.1 HLx.out.2.1 hlt
                    obtain ⟨b', off', u, hA', _, _, hzz', hc'⟩ := rd_elem DPackage.len (HRy.out.new HB.out).2.1.2.1 HLy.out.2.1 hlt'
                    rw [hA] at a2
                    rw [hA'] at b2
                    have hx := (HRx.out.new HB.out).2.1.at_ hzz
                    have hy := (HRy.out.new HB.out).2.1.at_ hzz'
                    have hxz := HZx2.out t (List.mem_of_getElem? hzz)
                    have hyz := HZy2.out u (List.mem_of_getElem? hzz')
                    have hxs := hxz.1
                    have hys := hyz.1
                    rw [DPackage.rd_sz hx] at hxs
                    rw [DPackage.rd_sz hy] at hys
                    have HC := Lib.hid (fun W (hb : Below wr.heap.size wr W) => spec_EqualPackages t.p0 t.p1 t.p2 t.l3 t.A3 t.n3 t.c3 _ _ t.l4 t.A4 t.n4 t.c4 _ _ t.l5 t.A5 t.n5 t.c5 _ _ t.l6 t.A6 t.n6 t.c6 _ _ t.p7 u.p0 u.p1 u.p2 u.l3 u.A3 u.n3 u.c3 _ _ u.l4 u.A4 u.n4 u.c4 _ _ u.l5 u.A5 u.n5 u.c5 _ _ u.l6 u.A6 u.n6 u.c6 _ _ u.p7 W (show t.n3 ≤ 1048576 by omega) ((DPackage.rd_keep hx fun b _ _ h3 => hb.block b h3).1.2) (Lib.hid hxz.2.2.2.2.1) (show t.n4 ≤ 1048576 by omega) ((DPackage.rd_keep hx fun b _ _ h3 => hb.block b h3).2.1.2) (Lib.hid hxz.2.2.2.2.2.1) (show t.n5 ≤ 1048576 by omega) ((DPackage.rd_keep hx fun b _ _ h3 => hb.block b h3).2.2.1.2) (Lib.hid hxz.2.2.2.2.2.2.1) (show t.n6 ≤ 1048576 by omega) ((DPackage.rd_keep hx fun b _ _ h3 => hb.block b h3).2.2.2.2) (Lib.hid hxz.2.2.2.2.2.2.2.1) (show u.n3 ≤ 1048576 by omega) ((DPackage.rd_keep hy fun b _ _ h3 => hb.block b h3).1.2) (Lib.hid hyz.2.2.2.2.1) (show u.n4 ≤ 1048576 by omega) ((DPackage.rd_keep hy fun b _ _ h3 => hb.block b h3).2.1.2) (Lib.hid hyz.2.2.2.2.2.1) (show u.n5 ≤ 1048576 by omega) ((DPackage.rd_keep hy fun b _ _ h3 => hb.block b h3).2.2.1.2) (Lib.hid hyz.2.2.2.2.2.2.1) (show u.n6 ≤ 1048576 by omega) ((DPackage.rd_keep hy fun b _ _ h3 => hb.block b h3).2.2.2.2) (Lib.hid hyz.2.2.2.2.2.2.2.1))
                    have c0 : wr.cell? ⟨b, off + k * 8, none⟩ = some (.int .i64 t.p0) := hc 0 _ rfl
                    have c1 : wr.cell? ⟨b, off + k * 8 + 1, none⟩ = some (.int .i64 t.p1) := hc 1 _ rfl
                    have c2 : wr.cell? ⟨b, off + k * 8 + 2, none⟩ = some (.int .i64 t.p2) := hc 2 _ rfl
                    have c3 : wr.cell? ⟨b, off + k * 8 + 3, none⟩ = some (.slice t.A3 t.n3 t.c3) := hc 3 _ rfl
                    have c4 : wr.cell? ⟨b, off + k * 8 + 4, none⟩ = some (.slice t.A4 t.n4 t.c4) := hc 4 _ rfl
                    have c5 : wr.cell? ⟨b, off + k * 8 + 5, none⟩ = some (.slice t.A5 t.n5 t.c5) := hc 5 _ rfl
                    have c6 : wr.cell? ⟨b, off + k * 8 + 6, none⟩ = some (.slice t.A6 t.n6 t.c6) := hc 6 _ rfl
                    have c7 : wr.cell? ⟨b, off + k * 8 + 7, none⟩ = some (.int .i64 t.p7) := hc 7 _ rfl
                    have e0 : wr.cell? ⟨b', off' + k * 8, none⟩ = some (.int .i64 u.p0) := hc' 0 _ rfl
                    have e1 : wr.cell? ⟨b', off' + k * 8 + 1, none⟩ = some (.int .i64 u.p1) := hc' 1 _ rfl
                    have e2 : wr.cell? ⟨b', off' + k * 8 + 2, none⟩ = some (.int .i64 u.p2) := hc' 2 _ rfl
                    have e3 : wr.cell? ⟨b', off' + k * 8 + 3, none⟩ = some (.slice u.A3 u.n3 u.c3) := hc' 3 _ rfl
                    have e4 : wr.cell? ⟨b', off' + k * 8 + 4, none⟩ = some (.slice u.A4 u.n4 u.c4) := hc' 4 _ rfl
                    have e5 : wr.cell? ⟨b', off' + k * 8 + 5, none⟩ = some (.slice u.A5 u.n5 u.c5) := hc' 5 _ rfl
                    have e6 : wr.cell? ⟨b', off' + k * 8 + 6, none⟩ = some (.slice u.A6 u.n6 u.c6) := hc' 6 _ rfl
                    have e7 : wr.cell? ⟨b', off' + k * 8 + 7, none⟩ = some (.int .i64 u.p7) := hc' 7 _ rfl
                    change Hid (∀ W, Below wr.heap.size wr W → Calls _ _ _ W (Says (.bool (mEqPackageD t.dat u.dat)) W)) at HC
                    have HNk := Lib.hid (HM2.out k t u hzz hzz')
                    have HFk := Lib.hid (fun (h : mEqPackageD t.dat u.dat = true) => (fun j t' u' (hj : j < k + 1) (h1 : x.l2[j]? = some t') (h2 : y.l2[j]? = some u') => show mEqPackageD t'.dat u'.dat = true from by
                      by_cases e : j = k
                      · subst e
                        rw [hzz] at h1; rw [hzz'] at h2
                        rw [← Option.some.inj h1, ← Option.some.inj h2]; exact h
                      · exact HF2.out j t' u' (by omega) h1 h2))
                    have KA2 := Lib.hid (show BoxAt wr.drew w.heap.size 40 #[.int .i64 x.p0, .slice x.A1 x.n1 x.c1, .slice (some ⟨b, off, none⟩) x.n2 x.c2, .slice x.A3 x.n3 x.c3, .slice x.A4 x.n4 x.c4, .slice x.A5 x.n5 x.c5, .slice x.A6 x.n6 x.c6, .int .i64 x.p7] by have h := KA.out.drw; rwa [hA] at h)
                    have KC2 := Lib.hid (show BoxAt wr.drew (w.heap.size + 1) 40 #[.int .i64 y.p0, .slice y.A1 y.n1 y.c1, .slice (some ⟨b', off', none⟩) y.n2 y.c2, .slice y.A3 y.n3 y.c3, .slice y.A4 y.n4 y.c4, .slice y.A5 y.n5 y.c5, .slice y.A6 y.n6 y.c6, .int .i64 y.p7] by have h := KC.out.drw; rwa [hA'] at h)
                    replace hA := Lib.hid hA
                    replace hA' := Lib.hid hA'
                    clear hzz hzz' hc hc' hx hy hxz hyz hxs hys
                    generalize mEqPackageD t.dat u.dat = q at HC HNk HFk
                    go_wp2_with fail
                    clear a0 b0 a1 b1 a2 b2 a3 b3 a4 b4 a5 b5 a6 b6 a7 b7
                    refine wp_region_held_drew (S := fun w' => BoxAt w' w.heap.size 40 #[.int .i64 x.p0, .slice x.A1 x.n1 x.c1, .slice (some ⟨b, off, none⟩) x.n2 x.c2, .slice x.A3 x.n3 x.c3, .slice x.A4 x.n4 x.c4, .slice x.A5 x.n5 x.c5, .slice x.A6 x.n6 x.c6, .int .i64 x.p7] ∧ BoxAt w' (w.heap.size + 1) 40 #[.int .i64 y.p0, .slice y.A1 y.n1 y.c1, .slice (some ⟨b', off', none⟩) y.n2 y.c2, .slice y.A3 y.n3 y.c3, .slice y.A4 y.n4 y.c4, .slice y.A5 y.n5 y.c5, .slice y.A6 y.n6 y.c6, .int .i64 y.p7] ∧ Below wr.heap.size wr w') (by kernel_rfl) ?_ (fun hHeld => ?_)
                    · exact ⟨KA2.out, KC2.out, (Below.refl _ _).drew⟩
                    refine wpAnyH_take (i := 0) (oi := ⟨some 73, _, _, _, _, _⟩) (v := ?_) rfl (by kernel_rfl) (by kernel_rfl) (by kernel_rfl) (fun _ _ _ h => h) (Or.inl ⟨by kernel_rfl, ?_⟩) hHeld ?_
                    rotate_left
                    focus (intro W hS; have c0_0 := (hS.1).at_ (j := 0) rfl; have c0_1 := (hS.1).at_ (j := 1) rfl; have c0_2 := (hS.1).at_ (j := 2) rfl; have c0_3 := (hS.1).at_ (j := 3) rfl; have c0_4 := (hS.1).at_ (j := 4) rfl; have c0_5 := (hS.1).at_ (j := 5) rfl; have c0_6 := (hS.1).at_ (j := 6) rfl; have c0_7 := (hS.1).at_ (j := 7) rfl; have c1_0 := (hS.2.1).at_ (j := 0) rfl; have c1_1 := (hS.2.1).at_ (j := 1) rfl; have c1_2 := (hS.2.1).at_ (j := 2) rfl; have c1_3 := (hS.2.1).at_ (j := 3) rfl; have c1_4 := (hS.2.1).at_ (j := 4) rfl; have c1_5 := (hS.2.1).at_ (j := 5) rfl; have c1_6 := (hS.2.1).at_ (j := 6) rfl; have c1_7 := (hS.2.1).at_ (j := 7) rfl; have c0' := cell_nw hS.2.2 c0; have c1' := cell_nw hS.2.2 c1; have c2' := cell_nw hS.2.2 c2; have c3' := cell_nw hS.2.2 c3; have c4' := cell_nw hS.2.2 c4; have c5' := cell_nw hS.2.2 c5; have c6' := cell_nw hS.2.2 c6; have c7' := cell_nw hS.2.2 c7; have e0' := cell_nw hS.2.2 e0; have e1' := cell_nw hS.2.2 e1; have e2' := cell_nw hS.2.2 e2; have e3' := cell_nw hS.2.2 e3; have e4' := cell_nw hS.2.2 e4; have e5' := cell_nw hS.2.2 e5; have e6' := cell_nw hS.2.2 e6; have e7' := cell_nw hS.2.2 e7; clear hS; first | (go_simp; done) | (go_simp; with_reducible rfl))
                    try simp only [Act.put, List.setIfInBounds_toArray, List.set_cons_zero, List.set_cons_succ]
                    refine wpAnyH_take (i := 1) (oi := ⟨some 74, _, _, _, _, _⟩) (v := ?_) rfl (by kernel_rfl) (by kernel_rfl) (by kernel_rfl) (fun _ _ _ h => h) (Or.inl ⟨by kernel_rfl, ?_⟩) hHeld ?_
                    rotate_left
                    focus (intro W hS; have c0_0 := (hS.1).at_ (j := 0) rfl; have c0_1 := (hS.1).at_ (j := 1) rfl; have c0_2 := (hS.1).at_ (j := 2) rfl; have c0_3 := (hS.1).at_ (j := 3) rfl; have c0_4 := (hS.1).at_ (j := 4) rfl; have c0_5 := (hS.1).at_ (j := 5) rfl; have c0_6 := (hS.1).at_ (j := 6) rfl; have c0_7 := (hS.1).at_ (j := 7) rfl; have c1_0 := (hS.2.1).at_ (j := 0) rfl; have c1_1 := (hS.2.1).at_ (j := 1) rfl; have c1_2 := (hS.2.1).at_ (j := 2) rfl; have c1_3 := (hS.2.1).at_ (j := 3) rfl; have c1_4 := (hS.2.1).at_ (j := 4) rfl; have c1_5 := (hS.2.1).at_ (j := 5) rfl; have c1_6 := (hS.2.1).at_ (j := 6) rfl; have c1_7 := (hS.2.1).at_ (j := 7) rfl; have c0' := cell_nw hS.2.2 c0; have c1' := cell_nw hS.2.2 c1; have c2' := cell_nw hS.2.2 c2; have c3' := cell_nw hS.2.2 c3; have c4' := cell_nw hS.2.2 c4; have c5' := cell_nw hS.2.2 c5; have c6' := cell_nw hS.2.2 c6; have c7' := cell_nw hS.2.2 c7; have e0' := cell_nw hS.2.2 e0; have e1' := cell_nw hS.2.2 e1; have e2' := cell_nw hS.2.2 e2; have e3' := cell_nw hS.2.2 e3; have e4' := cell_nw hS.2.2 e4; have e5' := cell_nw hS.2.2 e5; have e6' := cell_nw hS.2.2 e6; have e7' := cell_nw hS.2.2 e7; clear hS; first | (go_simp; done) | (go_simp; with_reducible rfl))
                    try simp only [Act.put, List.setIfInBounds_toArray, List.set_cons_zero, List.set_cons_succ]
                    refine wpAnyH_take (i := 2) (oi := ⟨some 75, _, _, _, _, _⟩) (v := ?_) rfl (by kernel_rfl) (by kernel_rfl) (by kernel_rfl) (fun _ _ _ h => h) (Or.inl ⟨by kernel_rfl, ?_⟩) hHeld ?_
                    rotate_left
                    focus (intro W hS; have c0_0 := (hS.1).at_ (j := 0) rfl; have c0_1 := (hS.1).at_ (j := 1) rfl; have c0_2 := (hS.1).at_ (j := 2) rfl; have c0_3 := (hS.1).at_ (j := 3) rfl; have c0_4 := (hS.1).at_ (j := 4) rfl; have c0_5 := (hS.1).at_ (j := 5) rfl; have c0_6 := (hS.1).at_ (j := 6) rfl; have c0_7 := (hS.1).at_ (j := 7) rfl; have c1_0 := (hS.2.1).at_ (j := 0) rfl; have c1_1 := (hS.2.1).at_ (j := 1) rfl; have c1_2 := (hS.2.1).at_ (j := 2) rfl; have c1_3 := (hS.2.1).at_ (j := 3) rfl; have c1_4 := (hS.2.1).at_ (j := 4) rfl; have c1_5 := (hS.2.1).at_ (j := 5) rfl; have c1_6 := (hS.2.1).at_ (j := 6) rfl; have c1_7 := (hS.2.1).at_ (j := 7) rfl; have c0' := cell_nw hS.2.2 c0; have c1' := cell_nw hS.2.2 c1; have c2' := cell_nw hS.2.2 c2; have c3' := cell_nw hS.2.2 c3; have c4' := cell_nw hS.2.2 c4; have c5' := cell_nw hS.2.2 c5; have c6' := cell_nw hS.2.2 c6; have c7' := cell_nw hS.2.2 c7; have e0' := cell_nw hS.2.2 e0; have e1' := cell_nw hS.2.2 e1; have e2' := cell_nw hS.2.2 e2; have e3' := cell_nw hS.2.2 e3; have e4' := cell_nw hS.2.2 e4; have e5' := cell_nw hS.2.2 e5; have e6' := cell_nw hS.2.2 e6; have e7' := cell_nw hS.2.2 e7; clear hS; first | (go_simp; done) | (go_simp; with_reducible rfl))
                    try simp only [Act.put, List.setIfInBounds_toArray, List.set_cons_zero, List.set_cons_succ]
                    refine wpAnyH_take (i := 3) (oi := ⟨some 76, _, _, _, _, _⟩) (v := ?_) rfl (by kernel_rfl) (by kernel_rfl) (by kernel_rfl) (fun _ _ _ h => h) (Or.inl ⟨by kernel_rfl, ?_⟩) hHeld ?_
                    rotate_left
                    focus (intro W hS; have c0_0 := (hS.1).at_ (j := 0) rfl; have c0_1 := (hS.1).at_ (j := 1) rfl; have c0_2 := (hS.1).at_ (j := 2) rfl; have c0_3 := (hS.1).at_ (j := 3) rfl; have c0_4 := (hS.1).at_ (j := 4) rfl; have c0_5 := (hS.1).at_ (j := 5) rfl; have c0_6 := (hS.1).at_ (j := 6) rfl; have c0_7 := (hS.1).at_ (j := 7) rfl; have c1_0 := (hS.2.1).at_ (j := 0) rfl; have c1_1 := (hS.2.1).at_ (j := 1) rfl; have c1_2 := (hS.2.1).at_ (j := 2) rfl; have c1_3 := (hS.2.1).at_ (j := 3) rfl; have c1_4 := (hS.2.1).at_ (j := 4) rfl; have c1_5 := (hS.2.1).at_ (j := 5) rfl; have c1_6 := (hS.2.1).at_ (j := 6) rfl; have c1_7 := (hS.2.1).at_ (j := 7) rfl; have c0' := cell_nw hS.2.2 c0; have c1' := cell_nw hS.2.2 c1; have c2' := cell_nw hS.2.2 c2; have c3' := cell_nw hS.2.2 c3; have c4' := cell_nw hS.2.2 c4; have c5' := cell_nw hS.2.2 c5; have c6' := cell_nw hS.2.2 c6; have c7' := cell_nw hS.2.2 c7; have e0' := cell_nw hS.2.2 e0; have e1' := cell_nw hS.2.2 e1; have e2' := cell_nw hS.2.2 e2; have e3' := cell_nw hS.2.2 e3; have e4' := cell_nw hS.2.2 e4; have e5' := cell_nw hS.2.2 e5; have e6' := cell_nw hS.2.2 e6; have e7' := cell_nw hS.2.2 e7; clear hS; first | (go_simp; done) | (go_simp; with_reducible rfl))
                    try simp only [Act.put, List.setIfInBounds_toArray, List.set_cons_zero, List.set_cons_succ]
                    refine wpAnyH_take (i := 4) (oi := ⟨some 77, _, _, _, _, _⟩) (v := ?_) rfl (by kernel_rfl) (by kernel_rfl) (by kernel_rfl) (fun _ _ _ h => h) (Or.inl ⟨by kernel_rfl, ?_⟩) hHeld ?_
                    rotate_left
                    focus (intro W hS; have c0_0 := (hS.1).at_ (j := 0) rfl; have c0_1 := (hS.1).at_ (j := 1) rfl; have c0_2 := (hS.1).at_ (j := 2) rfl; have c0_3 := (hS.1).at_ (j := 3) rfl; have c0_4 := (hS.1).at_ (j := 4) rfl; have c0_5 := (hS.1).at_ (j := 5) rfl; have c0_6 := (hS.1).at_ (j := 6) rfl; have c0_7 := (hS.1).at_ (j := 7) rfl; have c1_0 := (hS.2.1).at_ (j := 0) rfl; have c1_1 := (hS.2.1).at_ (j := 1) rfl; have c1_2 := (hS.2.1).at_ (j := 2) rfl; have c1_3 := (hS.2.1).at_ (j := 3) rfl; have c1_4 := (hS.2.1).at_ (j := 4) rfl; have c1_5 := (hS.2.1).at_ (j := 5) rfl; have c1_6 := (hS.2.1).at_ (j := 6) rfl; have c1_7 := (hS.2.1).at_ (j := 7) rfl; have c0' := cell_nw hS.2.2 c0; have c1' := cell_nw hS.2.2 c1; have c2' := cell_nw hS.2.2 c2; have c3' := cell_nw hS.2.2 c3; have c4' := cell_nw hS.2.2 c4; have c5' := cell_nw hS.2.2 c5; have c6' := cell_nw hS.2.2 c6; have c7' := cell_nw hS.2.2 c7; have e0' := cell_nw hS.2.2 e0; have e1' := cell_nw hS.2.2 e1; have e2' := cell_nw hS.2.2 e2; have e3' := cell_nw hS.2.2 e3; have e4' := cell_nw hS.2.2 e4; have e5' := cell_nw hS.2.2 e5; have e6' := cell_nw hS.2.2 e6; have e7' := cell_nw hS.2.2 e7; clear hS; first | (go_simp; done) | (go_simp; with_reducible rfl))
                    try simp only [Act.put, List.setIfInBounds_toArray, List.set_cons_zero, List.set_cons_succ]
                    refine wpAnyH_take (i := 5) (oi := ⟨some 78, _, _, _, _, _⟩) (v := ?_) rfl (by kernel_rfl) (by kernel_rfl) (by kernel_rfl) (fun _ _ _ h => h) (Or.inl ⟨by kernel_rfl, ?_⟩) hHeld ?_
                    rotate_left
                    focus (intro W hS; have c0_0 := (hS.1).at_ (j := 0) rfl; have c0_1 := (hS.1).at_ (j := 1) rfl; have c0_2 := (hS.1).at_ (j := 2) rfl; have c0_3 := (hS.1).at_ (j := 3) rfl; have c0_4 := (hS.1).at_ (j := 4) rfl; have c0_5 := (hS.1).at_ (j := 5) rfl; have c0_6 := (hS.1).at_ (j := 6) rfl; have c0_7 := (hS.1).at_ (j := 7) rfl; have c1_0 := (hS.2.1).at_ (j := 0) rfl; have c1_1 := (hS.2.1).at_ (j := 1) rfl; have c1_2 := (hS.2.1).at_ (j := 2) rfl; have c1_3 := (hS.2.1).at_ (j := 3) rfl; have c1_4 := (hS.2.1).at_ (j := 4) rfl; have c1_5 := (hS.2.1).at_ (j := 5) rfl; have c1_6 := (hS.2.1).at_ (j := 6) rfl; have c1_7 := (hS.2.1).at_ (j := 7) rfl; have c0' := cell_nw hS.2.2 c0; have c1' := cell_nw hS.2.2 c1; have c2' := cell_nw hS.2.2 c2; have c3' := cell_nw hS.2.2 c3; have c4' := cell_nw hS.2.2 c4; have c5' := cell_nw hS.2.2 c5; have c6' := cell_nw hS.2.2 c6; have c7' := cell_nw hS.2.2 c7; have e0' := cell_nw hS.2.2 e0; have e1' := cell_nw hS.2.2 e1; have e2' := cell_nw hS.2.2 e2; have e3' := cell_nw hS.2.2 e3; have e4' := cell_nw hS.2.2 e4; have e5' := cell_nw hS.2.2 e5; have e6' := cell_nw hS.2.2 e6; have e7' := cell_nw hS.2.2 e7; clear hS; first | (go_simp; done) | (go_simp; with_reducible rfl))
                    try simp only [Act.put, List.setIfInBounds_toArray, List.set_cons_zero, List.set_cons_succ]
                    refine wpAnyH_take (i := 6) (oi := ⟨some 79, _, _, _, _, _⟩) (v := ?_) rfl (by kernel_rfl) (by kernel_rfl) (by kernel_rfl) (fun _ _ _ h => h) (Or.inl ⟨by kernel_rfl, ?_⟩) hHeld ?_
                    rotate_left
                    focus (intro W hS; have c0_0 := (hS.1).at_ (j := 0) rfl; have c0_1 := (hS.1).at_ (j := 1) rfl; have c0_2 := (hS.1).at_ (j := 2) rfl; have c0_3 := (hS.1).at_ (j := 3) rfl; have c0_4 := (hS.1).at_ (j := 4) rfl; have c0_5 := (hS.1).at_ (j := 5) rfl; have c0_6 := (hS.1).at_ (j := 6) rfl; have c0_7 := (hS.1).at_ (j := 7) rfl; have c1_0 := (hS.2.1).at_ (j := 0) rfl; have c1_1 := (hS.2.1).at_ (j := 1) rfl; have c1_2 := (hS.2.1).at_ (j := 2) rfl; have c1_3 := (hS.2.1).at_ (j := 3) rfl; have c1_4 := (hS.2.1).at_ (j := 4) rfl; have c1_5 := (hS.2.1).at_ (j := 5) rfl; have c1_6 := (hS.2.1).at_ (j := 6) rfl; have c1_7 := (hS.2.1).at_ (j := 7) rfl; have c0' := cell_nw hS.2.2 c0; have c1' := cell_nw hS.2.2 c1; have c2' := cell_nw hS.2.2 c2; have c3' := cell_nw hS.2.2 c3; have c4' := cell_nw hS.2.2 c4; have c5' := cell_nw hS.2.2 c5; have c6' := cell_nw hS.2.2 c6; have c7' := cell_nw hS.2.2 c7; have e0' := cell_nw hS.2.2 e0; have e1' := cell_nw hS.2.2 e1; have e2' := cell_nw hS.2.2 e2; have e3' := cell_nw hS.2.2 e3; have e4' := cell_nw hS.2.2 e4; have e5' := cell_nw hS.2.2 e5; have e6' := cell_nw hS.2.2 e6; have e7' := cell_nw hS.2.2 e7; clear hS; first | (go_simp; done) | (go_simp; with_reducible rfl))
                    try simp only [Act.put, List.setIfInBounds_toArray, List.set_cons_zero, List.set_cons_succ]
                    refine wpAnyH_take (i := 7) (oi := ⟨some 80, _, _, _, _, _⟩) (v := ?_) rfl (by kernel_rfl) (by kernel_rfl) (by kernel_rfl) (fun _ _ _ h => h) (Or.inl ⟨by kernel_rfl, ?_⟩) hHeld ?_
                    rotate_left
                    focus (intro W hS; have c0_0 := (hS.1).at_ (j := 0) rfl; have c0_1 := (hS.1).at_ (j := 1) rfl; have c0_2 := (hS.1).at_ (j := 2) rfl; have c0_3 := (hS.1).at_ (j := 3) rfl; have c0_4 := (hS.1).at_ (j := 4) rfl; have c0_5 := (hS.1).at_ (j := 5) rfl; have c0_6 := (hS.1).at_ (j := 6) rfl; have c0_7 := (hS.1).at_ (j := 7) rfl; have c1_0 := (hS.2.1).at_ (j := 0) rfl; have c1_1 := (hS.2.1).at_ (j := 1) rfl; have c1_2 := (hS.2.1).at_ (j := 2) rfl; have c1_3 := (hS.2.1).at_ (j := 3) rfl; have c1_4 := (hS.2.1).at_ (j := 4) rfl; have c1_5 := (hS.2.1).at_ (j := 5) rfl; have c1_6 := (hS.2.1).at_ (j := 6) rfl; have c1_7 := (hS.2.1).at_ (j := 7) rfl; have c0' := cell_nw hS.2.2 c0; have c1' := cell_nw hS.2.2 c1; have c2' := cell_nw hS.2.2 c2; have c3' := cell_nw hS.2.2 c3; have c4' := cell_nw hS.2.2 c4; have c5' := cell_nw hS.2.2 c5; have c6' := cell_nw hS.2.2 c6; have c7' := cell_nw hS.2.2 c7; have e0' := cell_nw hS.2.2 e0; have e1' := cell_nw hS.2.2 e1; have e2' := cell_nw hS.2.2 e2; have e3' := cell_nw hS.2.2 e3; have e4' := cell_nw hS.2.2 e4; have e5' := cell_nw hS.2.2 e5; have e6' := cell_nw hS.2.2 e6; have e7' := cell_nw hS.2.2 e7; clear hS; first | (go_simp; done) | (go_simp; with_reducible rfl))
                    try simp only [Act.put, List.setIfInBounds_toArray, List.set_cons_zero, List.set_cons_succ]
                    refine wpAnyH_take (i := 8) (oi := ⟨some 81, _, _, _, _, _⟩) (v := ?_) rfl (by kernel_rfl) (by kernel_rfl) (by kernel_rfl) (fun _ _ _ h => h) (Or.inl ⟨by kernel_rfl, ?_⟩) hHeld ?_
                    rotate_left
                    focus (intro W hS; have c0_0 := (hS.1).at_ (j := 0) rfl; have c0_1 := (hS.1).at_ (j := 1) rfl; have c0_2 := (hS.1).at_ (j := 2) rfl; have c0_3 := (hS.1).at_ (j := 3) rfl; have c0_4 := (hS.1).at_ (j := 4) rfl; have c0_5 := (hS.1).at_ (j := 5) rfl; have c0_6 := (hS.1).at_ (j := 6) rfl; have c0_7 := (hS.1).at_ (j := 7) rfl; have c1_0 := (hS.2.1).at_ (j := 0) rfl; have c1_1 := (hS.2.1).at_ (j := 1) rfl; have c1_2 := (hS.2.1).at_ (j := 2) rfl; have c1_3 := (hS.2.1).at_ (j := 3) rfl; have c1_4 := (hS.2.1).at_ (j := 4) rfl; have c1_5 := (hS.2.1).at_ (j := 5) rfl; have c1_6 := (hS.2.1).at_ (j := 6) rfl; have c1_7 := (hS.2.1).at_ (j := 7) rfl; have c0' := cell_nw hS.2.2 c0; have c1' := cell_nw hS.2.2 c1; have c2' := cell_nw hS.2.2 c2; have c3' := cell_nw hS.2.2 c3; have c4' := cell_nw hS.2.2 c4; have c5' := cell_nw hS.2.2 c5; have c6' := cell_nw hS.2.2 c6; have c7' := cell_nw hS.2.2 c7; have e0' := cell_nw hS.2.2 e0; have e1' := cell_nw hS.2.2 e1; have e2' := cell_nw hS.2.2 e2; have e3' := cell_nw hS.2.2 e3; have e4' := cell_nw hS.2.2 e4; have e5' := cell_nw hS.2.2 e5; have e6' := cell_nw hS.2.2 e6; have e7' := cell_nw hS.2.2 e7; clear hS; first | (go_simp; done) | (go_simp; with_reducible rfl))
                    try simp only [Act.put, List.setIfInBounds_toArray, List.set_cons_zero, List.set_cons_succ]
                    refine wpAnyH_take (i := 9) (oi := ⟨some 82, _, _, _, _, _⟩) (v := ?_) rfl (by kernel_rfl) (by kernel_rfl) (by kernel_rfl) (fun _ _ _ h => h) (Or.inl ⟨by kernel_rfl, ?_⟩) hHeld ?_
                    rotate_left
                    focus (intro W hS; have c0_0 := (hS.1).at_ (j := 0) rfl; have c0_1 := (hS.1).at_ (j := 1) rfl; have c0_2 := (hS.1).at_ (j := 2) rfl; have c0_3 := (hS.1).at_ (j := 3) rfl; have c0_4 := (hS.1).at_ (j := 4) rfl; have c0_5 := (hS.1).at_ (j := 5) rfl; have c0_6 := (hS.1).at_ (j := 6) rfl; have c0_7 := (hS.1).at_ (j := 7) rfl; have c1_0 := (hS.2.1).at_ (j := 0) rfl; have c1_1 := (hS.2.1).at_ (j := 1) rfl; have c1_2 := (hS.2.1).at_ (j := 2) rfl; have c1_3 := (hS.2.1).at_ (j := 3) rfl; have c1_4 := (hS.2.1).at_ (j := 4) rfl; have c1_5 := (hS.2.1).at_ (j := 5) rfl; have c1_6 := (hS.2.1).at_ (j := 6) rfl; have c1_7 := (hS.2.1).at_ (j := 7) rfl; have c0' := cell_nw hS.2.2 c0; have c1' := cell_nw hS.2.2 c1; have c2' := cell_nw hS.2.2 c2; have c3' := cell_nw hS.2.2 c3; have c4' := cell_nw hS.2.2 c4; have c5' := cell_nw hS.2.2 c5; have c6' := cell_nw hS.2.2 c6; have c7' := cell_nw hS.2.2 c7; have e0' := cell_nw hS.2.2 e0; have e1' := cell_nw hS.2.2 e1; have e2' := cell_nw hS.2.2 e2; have e3' := cell_nw hS.2.2 e3; have e4' := cell_nw hS.2.2 e4; have e5' := cell_nw hS.2.2 e5; have e6' := cell_nw hS.2.2 e6; have e7' := cell_nw hS.2.2 e7; clear hS; first | (go_simp; done) | (go_simp; with_reducible rfl))
                    try simp only [Act.put, List.setIfInBounds_toArray, List.set_cons_zero, List.set_cons_succ]
                    refine wpAnyH_ready (rs := [10]) (by kernel_rfl) (by simp) ?_
                    refine AllReadyH.cons (o := ⟨some 83, _, _, _, _, _⟩) rfl (fun K hK => ?_) AllReadyH.nil
                    go_simp
                    refine Calls.mono (HC.out _ hHeld.2.2) ?_
                    rintro e x1 ⟨rfl, hb1⟩
                    refine hK.out _ _ ⟨hHeld.1.new hb1, hHeld.2.1.new hb1, below_trans hHeld.2.2 hb1 (Nat.le_refl _)⟩ (fun hHeld' => ?_)
                    clear hK K hHeld hb1
                    have hHeld := hHeld'
                    clear hHeld'
                    try simp only [Act.put, List.setIfInBounds_toArray, List.set_cons_zero, List.set_cons_succ]
                    refine wpAnyH_take (i := 11) (oi := ⟨some 84, _, _, _, _, _⟩) (v := ?_) rfl (by kernel_rfl) (by kernel_rfl) (by kernel_rfl) (fun _ _ _ h => h) (Or.inl ⟨by kernel_rfl, ?_⟩) hHeld ?_
                    rotate_left
                    focus (intro W hS; have c0_0 := (hS.1).at_ (j := 0) rfl; have c0_1 := (hS.1).at_ (j := 1) rfl; have c0_2 := (hS.1).at_ (j := 2) rfl; have c0_3 := (hS.1).at_ (j := 3) rfl; have c0_4 := (hS.1).at_ (j := 4) rfl; have c0_5 := (hS.1).at_ (j := 5) rfl; have c0_6 := (hS.1).at_ (j := 6) rfl; have c0_7 := (hS.1).at_ (j := 7) rfl; have c1_0 := (hS.2.1).at_ (j := 0) rfl; have c1_1 := (hS.2.1).at_ (j := 1) rfl; have c1_2 := (hS.2.1).at_ (j := 2) rfl; have c1_3 := (hS.2.1).at_ (j := 3) rfl; have c1_4 := (hS.2.1).at_ (j := 4) rfl; have c1_5 := (hS.2.1).at_ (j := 5) rfl; have c1_6 := (hS.2.1).at_ (j := 6) rfl; have c1_7 := (hS.2.1).at_ (j := 7) rfl; have c0' := cell_nw hS.2.2 c0; have c1' := cell_nw hS.2.2 c1; have c2' := cell_nw hS.2.2 c2; have c3' := cell_nw hS.2.2 c3; have c4' := cell_nw hS.2.2 c4; have c5' := cell_nw hS.2.2 c5; have c6' := cell_nw hS.2.2 c6; have c7' := cell_nw hS.2.2 c7; have e0' := cell_nw hS.2.2 e0; have e1' := cell_nw hS.2.2 e1; have e2' := cell_nw hS.2.2 e2; have e3' := cell_nw hS.2.2 e3; have e4' := cell_nw hS.2.2 e4; have e5' := cell_nw hS.2.2 e5; have e6' := cell_nw hS.2.2 e6; have e7' := cell_nw hS.2.2 e7; clear hS; first | (go_simp; done) | (go_simp; with_reducible rfl))
                    try simp only [Act.put, List.setIfInBounds_toArray, List.set_cons_zero, List.set_cons_succ]
                    refine wpAnyH_done (by kernel_rfl) ?_ _
                    skip
                    have KA3 := Lib.hid (show BoxAt x1 w.heap.size 40 #[.int .i64 x.p0, .slice x.A1 x.n1 x.c1, .slice x.A2 x.n2 x.c2, .slice x.A3 x.n3 x.c3, .slice x.A4 x.n4 x.c4, .slice x.A5 x.n5 x.c5, .slice x.A6 x.n6 x.c6, .int .i64 x.p7] by rw [hA.out]; exact hHeld.1)
                    have KC3 := Lib.hid (show BoxAt x1 (w.heap.size + 1) 40 #[.int .i64 y.p0, .slice y.A1 y.n1 y.c1, .slice y.A2 y.n2 y.c2, .slice y.A3 y.n3 y.c3, .slice y.A4 y.n4 y.c4, .slice y.A5 y.n5 y.c5, .slice y.A6 y.n6 y.c6, .int .i64 y.p7] by rw [hA'.out]; exact hHeld.2.1)
                    have HB3 := Lib.hid (below_trans HB.out hHeld.2.2 (Nat.le_refl _))
                    clear hHeld c0 e0 c1 e1 c2 e2 c3 e3 c4 e4 c5 e5 c6 e6 c7 e7
                    cases q
                    · have HE := Lib.hid (HNk.out rfl)
                      go_wp2_with fail
                      go_ret
                      exact ⟨by rw [HE.out]; rfl, HB3.out⟩
                    · have HE := Lib.hid (HFk.out rfl)
                      go_wp2_with fail
                      go_roundg (x.n2 - (k + 1))
                      case measure => omega
                      case rel => exact ⟨k + 1, by omega, by omega, by go_num, HE, KA3, KC3, HB3⟩
                  · obtain rfl : k = x.n2 := by omega
                    go_wp2_with fail
                    clear a0 b0 a1 b1 a2 b2 a3 b3 a4 b4 a5 b5 a6 b6 a7 b7
                    go_loopg [7] x.n4 (fun gg i wr => ∃ k : Nat, k ≤ x.n4 ∧ x.n4 - k ≤ gg ∧ i = .int .i64 k ∧ Hid (x.l4.take k = y.l4.take k) ∧ Hid (BoxAt wr w.heap.size 40 #[.int .i64 x.p0, .slice x.A1 x.n1 x.c1, .slice x.A2 x.n2 x.c2, .slice x.A3 x.n3 x.c3, .slice x.A4 x.n4 x.c4, .slice x.A5 x.n5 x.c5, .slice x.A6 x.n6 x.c6, .int .i64 x.p7]) ∧ Hid (BoxAt wr (w.heap.size + 1) 40 #[.int .i64 y.p0, .slice y.A1 y.n1 y.c1, .slice y.A2 y.n2 y.c2, .slice y.A3 y.n3 y.c3, .slice y.A4 y.n4 y.c4, .slice y.A5 y.n5 y.c5, .slice y.A6 y.n6 y.c6, .int .i64 y.p7]) ∧ Hid (Below w.heap.size w wr))
                    case atStart => exact ⟨0, Nat.zero_le _, by omega, rfl, Lib.hid rfl, by first | exact KA | exact Lib.hid KA.out, by first | exact KC | exact Lib.hid KC.out, by first | exact HB | exact Lib.hid (below_dN HB.out _)⟩
                    case round =>
                      obtain ⟨k, hk, hg, rfl, HF4, KA, KC, HB⟩ := hrel
                      have a0 : wr.cell? ⟨w.heap.size, 0, none⟩ = some (.int .i64 x.p0) := KA.out.at_ rfl
                      have a1 : wr.cell? ⟨w.heap.size, 1, none⟩ = some (.slice x.A1 x.n1 x.c1) := KA.out.at_ rfl
                      have a2 : wr.cell? ⟨w.heap.size, 2, none⟩ = some (.slice x.A2 x.n2 x.c2) := KA.out.at_ rfl
                      have a3 : wr.cell? ⟨w.heap.size, 3, none⟩ = some (.slice x.A3 x.n3 x.c3) := KA.out.at_ rfl
                      have a4 : wr.cell? ⟨w.heap.size, 4, none⟩ = some (.slice x.A4 x.n4 x.c4) := KA.out.at_ rfl
                      have a5 : wr.cell? ⟨w.heap.size, 5, none⟩ = some (.slice x.A5 x.n5 x.c5) := KA.out.at_ rfl
                      have a6 : wr.cell? ⟨w.heap.size, 6, none⟩ = some (.slice x.A6 x.n6 x.c6) := KA.out.at_ rfl
                      have a7 : wr.cell? ⟨w.heap.size, 7, none⟩ = some (.int .i64 x.p7) := KA.out.at_ rfl
                      have b0 : wr.cell? ⟨w.heap.size + 1, 0, none⟩ = some (.int .i64 y.p0) := KC.out.at_ rfl
                      have b1 : wr.cell? ⟨w.heap.size + 1, 1, none⟩ = some (.slice y.A1 y.n1 y.c1) := KC.out.at_ rfl
                      have b2 : wr.cell? ⟨w.heap.size + 1, 2, none⟩ = some (.slice y.A2 y.n2 y.c2) := KC.out.at_ rfl
                      have b3 : wr.cell? ⟨w.heap.size + 1, 3, none⟩ = some (.slice y.A3 y.n3 y.c3) := KC.out.at_ rfl
                      have b4 : wr.cell? ⟨w.heap.size + 1, 4, none⟩ = some (.slice y.A4 y.n4 y.c4) := KC.out.at_ rfl
                      have b5 : wr.cell? ⟨w.heap.size + 1, 5, none⟩ = some (.slice y.A5 y.n5 y.c5) := KC.out.at_ rfl
                      have b6 : wr.cell? ⟨w.heap.size + 1, 6, none⟩ = some (.slice y.A6 y.n6 y.c6) := KC.out.at_ rfl
                      have b7 : wr.cell? ⟨w.heap.size + 1, 7, none⟩ = some (.int .i64 y.p7) := KC.out.at_ rfl
                      by_cases hlt : k < x.n4
                      · have hlt' : k < y.n4 := by omega
                        obtain ⟨b, off, t, hA, _, _, hzz, hc⟩ := rd_elem TLimit.len (HRx.out.new HB.out).2.2.2.1.2 HLx.out.2.2.2.1 hlt
                        obtain ⟨b', off', u, hA', _, _, hzz', hc'⟩ := rd_elem TLimit.len (HRy.out.new HB.out).2.2.2.1.2 HLy.out.2.2.2.1 hlt'
                        rw [hA] at a4
                        rw [hA'] at b4
                        have c0 : wr.cell? ⟨b, off + k * 4, none⟩ = some (.int .i64 t.f0) := hc 0 _ rfl
                        have e0 : wr.cell? ⟨b', off' + k * 4, none⟩ = some (.int .i64 u.f0) := hc' 0 _ rfl
                        have c1 : wr.cell? ⟨b, off + k * 4 + 1, none⟩ = some (.int .i64 t.f1) := hc 1 _ rfl
                        have e1 : wr.cell? ⟨b', off' + k * 4 + 1, none⟩ = some (.int .i64 u.f1) := hc' 1 _ rfl
                        have c2 : wr.cell? ⟨b, off + k * 4 + 2, none⟩ = some (.int .i64 t.f2) := hc 2 _ rfl
                        have e2 : wr.cell? ⟨b', off' + k * 4 + 2, none⟩ = some (.int .i64 u.f2) := hc' 2 _ rfl
                        have c3 : wr.cell? ⟨b, off + k * 4 + 3, none⟩ = some (.int .i64 t.f3) := hc 3 _ rfl
                        have e3 : wr.cell? ⟨b', off' + k * 4 + 3, none⟩ = some (.int .i64 u.f3) := hc' 3 _ rfl
                        have HX := Lib.hid hzz
                        have HX' := Lib.hid hzz'
                        clear hzz hzz' hc hc' hA hA'
                        by_cases e : t = u
                        · have g1 : ∀ w, _ := fun w => (neq_Limit t u w).trans (by rw [decide_eq_true e])
                          simp only [Bool.not_true] at g1
                          have HE := Lib.hid (takes_eq_step HF4.out HX.out HX'.out e)
                          clear e
                          go_wp2_with fail
                          go_quiet (fail)
                          go_wp2_with fail
                          go_roundg (x.n4 - (k + 1))
                          case measure => omega
                          case rel => exact ⟨k + 1, by omega, by omega, by go_num, HE, by first | exact KA | exact Lib.hid KA.out, by first | exact KC | exact Lib.hid KC.out, by first | exact HB | exact Lib.hid (below_dN HB.out _)⟩
                        · have g1 : ∀ w, _ := fun w => (neq_Limit t u w).trans (by rw [decide_eq_false e])
                          simp only [Bool.not_false] at g1
                          have HE := Lib.hid (HM4.out k t u HX.out HX'.out e)
                          clear e
                          go_wp2_with fail
                          go_quiet (fail)
                          go_wp2_with fail
                          go_ret
                          exact ⟨by rw [HE.out]; rfl, by first | exact HB.out | exact below_dN HB.out _⟩
                      · obtain rfl : k = x.n4 := by omega
                        have HEnd := Lib.hid (HAll.out HF1.out HF2.out (by have h := HF4.out; rwa [List.take_of_length_le (by rw [HLx.out.2.2.2.1]; omega), List.take_of_length_le (by rw [HLy.out.2.2.2.1]; omega)] at h))
                        clear HAll
                        cases q3
                        · skip
                          go_wp2_with (first | (go_at_call 82; refine Calls.mono (D0.out _ HB.out) ?_; rintro e v0 ⟨rfl, hb⟩; (replace KA := Lib.hid (KA.out.new hb)); (replace KC := Lib.hid (KC.out.new hb)); (replace HB := Lib.hid (below_trans HB.out hb (Nat.le_refl _))); clear hb; (have a0 := KA.out.at_ (j := 0) rfl); (have b0 := KC.out.at_ (j := 0) rfl); (have a1 := KA.out.at_ (j := 1) rfl); (have b1 := KC.out.at_ (j := 1) rfl); (have a2 := KA.out.at_ (j := 2) rfl); (have b2 := KC.out.at_ (j := 2) rfl); (have a3 := KA.out.at_ (j := 3) rfl); (have b3 := KC.out.at_ (j := 3) rfl); (have a4 := KA.out.at_ (j := 4) rfl); (have b4 := KC.out.at_ (j := 4) rfl); (have a5 := KA.out.at_ (j := 5) rfl); (have b5 := KC.out.at_ (j := 5) rfl); (have a6 := KA.out.at_ (j := 6) rfl); (have b6 := KC.out.at_ (j := 6) rfl); (have a7 := KA.out.at_ (j := 7) rfl); (have b7 := KC.out.at_ (j := 7) rfl)))
                          go_ret
                          exact ⟨by rw [HEnd.out]; rfl, HB.out⟩
                        · skip
                          cases q5
                          · skip
                            go_wp2_with (first | (go_at_call 82; refine Calls.mono (D0.out _ HB.out) ?_; rintro e v0 ⟨rfl, hb⟩; (replace KA := Lib.hid (KA.out.new hb)); (replace KC := Lib.hid (KC.out.new hb)); (replace HB := Lib.hid (below_trans HB.out hb (Nat.le_refl _))); clear hb; (have a0 := KA.out.at_ (j := 0) rfl); (have b0 := KC.out.at_ (j := 0) rfl); (have a1 := KA.out.at_ (j := 1) rfl); (have b1 := KC.out.at_ (j := 1) rfl); (have a2 := KA.out.at_ (j := 2) rfl); (have b2 := KC.out.at_ (j := 2) rfl); (have a3 := KA.out.at_ (j := 3) rfl); (have b3 := KC.out.at_ (j := 3) rfl); (have a4 := KA.out.at_ (j := 4) rfl); (have b4 := KC.out.at_ (j := 4) rfl); (have a5 := KA.out.at_ (j := 5) rfl); (have b5 := KC.out.at_ (j := 5) rfl); (have a6 := KA.out.at_ (j := 6) rfl); (have b6 := KC.out.at_ (j := 6) rfl); (have a7 := KA.out.at_ (j := 7) rfl); (have b7 := KC.out.at_ (j := 7) rfl)) | (go_at_call 83; refine Calls.mono (D1.out _ HB.out) ?_; rintro e v1 ⟨rfl, hb⟩; (replace KA := Lib.hid (KA.out.new hb)); (replace KC := Lib.hid (KC.out.new hb)); (replace HB := Lib.hid (below_trans HB.out hb (Nat.le_refl _))); clear hb; (have a0 := KA.out.at_ (j := 0) rfl); (have b0 := KC.out.at_ (j := 0) rfl); (have a1 := KA.out.at_ (j := 1) rfl); (have b1 := KC.out.at_ (j := 1) rfl); (have a2 := KA.out.at_ (j := 2) rfl); (have b2 := KC.out.at_ (j := 2) rfl); (have a3 := KA.out.at_ (j := 3) rfl); (have b3 := KC.out.at_ (j := 3) rfl); (have a4 := KA.out.at_ (j := 4) rfl); (have b4 := KC.out.at_ (j := 4) rfl); (have a5 := KA.out.at_ (j := 5) rfl); (have b5 := KC.out.at_ (j := 5) rfl); (have a6 := KA.out.at_ (j := 6) rfl); (have b6 := KC.out.at_ (j := 6) rfl); (have a7 := KA.out.at_ (j := 7) rfl); (have b7 := KC.out.at_ (j := 7) rfl)))
                            go_ret
                            exact ⟨by rw [HEnd.out]; rfl, HB.out⟩
                          · skip
                            cases q6
                            · skip
                              go_wp2_with (first | (go_at_call 82; refine Calls.mono (D0.out _ HB.out) ?_; rintro e v0 ⟨rfl, hb⟩; (replace KA := Lib.hid (KA.out.new hb)); (replace KC := Lib.hid (KC.out.new hb)); (replace HB := Lib.hid (below_trans HB.out hb (Nat.le_refl _))); clear hb; (have a0 := KA.out.at_ (j := 0) rfl); (have b0 := KC.out.at_ (j := 0) rfl); (have a1 := KA.out.at_ (j := 1) rfl); (have b1 := KC.out.at_ (j := 1) rfl); (have a2 := KA.out.at_ (j := 2) rfl); (have b2 := KC.out.at_ (j := 2) rfl); (have a3 := KA.out.at_ (j := 3) rfl); (have b3 := KC.out.at_ (j := 3) rfl); (have a4 := KA.out.at_ (j := 4) rfl); (have b4 := KC.out.at_ (j := 4) rfl); (have a5 := KA.out.at_ (j := 5) rfl); (have b5 := KC.out.at_ (j := 5) rfl); (have a6 := KA.out.at_ (j := 6) rfl); (have b6 := KC.out.at_ (j := 6) rfl); (have a7 := KA.out.at_ (j := 7) rfl); (have b7 := KC.out.at_ (j := 7) rfl)) | (go_at_call 83; refine Calls.mono (D1.out _ HB.out) ?_; rintro e v1 ⟨rfl, hb⟩; (replace KA := Lib.hid (KA.out.new hb)); (replace KC := Lib.hid (KC.out.new hb)); (replace HB := Lib.hid (below_trans HB.out hb (Nat.le_refl _))); clear hb; (have a0 := KA.out.at_ (j := 0) rfl); (have b0 := KC.out.at_ (j := 0) rfl); (have a1 := KA.out.at_ (j := 1) rfl); (have b1 := KC.out.at_ (j := 1) rfl); (have a2 := KA.out.at_ (j := 2) rfl); (have b2 := KC.out.at_ (j := 2) rfl); (have a3 := KA.out.at_ (j := 3) rfl); (have b3 := KC.out.at_ (j := 3) rfl); (have a4 := KA.out.at_ (j := 4) rfl); (have b4 := KC.out.at_ (j := 4) rfl); (have a5 := KA.out.at_ (j := 5) rfl); (have b5 := KC.out.at_ (j := 5) rfl); (have a6 := KA.out.at_ (j := 6) rfl); (have b6 := KC.out.at_ (j := 6) rfl); (have a7 := KA.out.at_ (j := 7) rfl); (have b7 := KC.out.at_ (j := 7) rfl)) | (go_at_call 84; refine Calls.mono (D2.out _ HB.out) ?_; rintro e v2 ⟨rfl, hb⟩; (replace KA := Lib.hid (KA.out.new hb)); (replace KC := Lib.hid (KC.out.new hb)); (replace HB := Lib.hid (below_trans HB.out hb (Nat.le_refl _))); clear hb; (have a0 := KA.out.at_ (j := 0) rfl); (have b0 := KC.out.at_ (j := 0) rfl); (have a1 := KA.out.at_ (j := 1) rfl); (have b1 := KC.out.at_ (j := 1) rfl); (have a2 := KA.out.at_ (j := 2) rfl); (have b2 := KC.out.at_ (j := 2) rfl); (have a3 := KA.out.at_ (j := 3) rfl); (have b3 := KC.out.at_ (j := 3) rfl); (have a4 := KA.out.at_ (j := 4) rfl); (have b4 := KC.out.at_ (j := 4) rfl); (have a5 := KA.out.at_ (j := 5) rfl); (have b5 := KC.out.at_ (j := 5) rfl); (have a6 := KA.out.at_ (j := 6) rfl); (have b6 := KC.out.at_ (j := 6) rfl); (have a7 := KA.out.at_ (j := 7) rfl); (have b7 := KC.out.at_ (j := 7) rfl)))
                              go_ret
                              exact ⟨by rw [HEnd.out]; rfl, HB.out⟩
                            · skip
                              go_wp2_with (first | (go_at_call 82; refine Calls.mono (D0.out _ HB.out) ?_; rintro e v0 ⟨rfl, hb⟩; (replace KA := Lib.hid (KA.out.new hb)); (replace KC := Lib.hid (KC.out.new hb)); (replace HB := Lib.hid (below_trans HB.out hb (Nat.le_refl _))); clear hb; (have a0 := KA.out.at_ (j := 0) rfl); (have b0 := KC.out.at_ (j := 0) rfl); (have a1 := KA.out.at_ (j := 1) rfl); (have b1 := KC.out.at_ (j := 1) rfl); (have a2 := KA.out.at_ (j := 2) rfl); (have b2 := KC.out.at_ (j := 2) rfl); (have a3 := KA.out.at_ (j := 3) rfl); (have b3 := KC.out.at_ (j := 3) rfl); (have a4 := KA.out.at_ (j := 4) rfl); (have b4 := KC.out.at_ (j := 4) rfl); (have a5 := KA.out.at_ (j := 5) rfl); (have b5 := KC.out.at_ (j := 5) rfl); (have a6 := KA.out.at_ (j := 6) rfl); (have b6 := KC.out.at_ (j := 6) rfl); (have a7 := KA.out.at_ (j := 7) rfl); (have b7 := KC.out.at_ (j := 7) rfl)) | (go_at_call 83; refine Calls.mono (D1.out _ HB.out) ?_; rintro e v1 ⟨rfl, hb⟩; (replace KA := Lib.hid (KA.out.new hb)); (replace KC := Lib.hid (KC.out.new hb)); (replace HB := Lib.hid (below_trans HB.out hb (Nat.le_refl _))); clear hb; (have a0 := KA.out.at_ (j := 0) rfl); (have b0 := KC.out.at_ (j := 0) rfl); (have a1 := KA.out.at_ (j := 1) rfl); (have b1 := KC.out.at_ (j := 1) rfl); (have a2 := KA.out.at_ (j := 2) rfl); (have b2 := KC.out.at_ (j := 2) rfl); (have a3 := KA.out.at_ (j := 3) rfl); (have b3 := KC.out.at_ (j := 3) rfl); (have a4 := KA.out.at_ (j := 4) rfl); (have b4 := KC.out.at_ (j := 4) rfl); (have a5 := KA.out.at_ (j := 5) rfl); (have b5 := KC.out.at_ (j := 5) rfl); (have a6 := KA.out.at_ (j := 6) rfl); (have b6 := KC.out.at_ (j := 6) rfl); (have a7 := KA.out.at_ (j := 7) rfl); (have b7 := KC.out.at_ (j := 7) rfl)) | (go_at_call 84; refine Calls.mono (D2.out _ HB.out) ?_; rintro e v2 ⟨rfl, hb⟩; (replace KA := Lib.hid (KA.out.new hb)); (replace KC := Lib.hid (KC.out.new hb)); (replace HB := Lib.hid (below_trans HB.out hb (Nat.le_refl _))); clear hb; (have a0 := KA.out.at_ (j := 0) rfl); (have b0 := KC.out.at_ (j := 0) rfl); (have a1 := KA.out.at_ (j := 1) rfl); (have b1 := KC.out.at_ (j := 1) rfl); (have a2 := KA.out.at_ (j := 2) rfl); (have b2 := KC.out.at_ (j := 2) rfl); (have a3 := KA.out.at_ (j := 3) rfl); (have b3 := KC.out.at_ (j := 3) rfl); (have a4 := KA.out.at_ (j := 4) rfl); (have b4 := KC.out.at_ (j := 4) rfl); (have a5 := KA.out.at_ (j := 5) rfl); (have b5 := KC.out.at_ (j := 5) rfl); (have a6 := KA.out.at_ (j := 6) rfl); (have b6 := KC.out.at_ (j := 6) rfl); (have a7 := KA.out.at_ (j := 7) rfl); (have b7 := KC.out.at_ (j := 7) rfl)))
                              go_ret
                              exact ⟨by rw [HEnd.out]; rfl, HB.out⟩
          · skip
            have HE := Lib.hid (show E = false by have hne : ¬ x.l4 = y.l4 := fun e => en4 (by have h1 := hl.2.2.2.1; have h2 := hl'.2.2.2.1; rw [e] at h1; omega); rw [← hE, decide_eq_false hne]; simp)
            have f0 : (x.p0 != y.p0) = false := by simp [e0]
            have f7 : (x.p7 != y.p7) = false := by simp [e7]
            have f1 : ((x.n1 : Int) != (y.n1 : Int)) = false := by simp; omega
            have f2 : ((x.n2 : Int) != (y.n2 : Int)) = false := by simp; omega
            have f4 : ((x.n4 : Int) != (y.n4 : Int)) = true := by simp; omega
            clear hr hr' hok hok' hz hz' hl hl' hE e0 e7 en1 en2 en4
            go_enter Try.func36, Try.ntmps36
            go_wp2_with fail
            go_ret
            exact ⟨by rw [HE.out]; rfl, HB.out⟩
        · skip
          have HE := Lib.hid (show E = false by rw [← hE, eqL_len (f := mEqPackageD) (l := x.l2.map DPackage.dat) (l' := y.l2.map DPackage.dat) (by simp; omega)]; simp)
          have f0 : (x.p0 != y.p0) = false := by simp [e0]
          have f7 : (x.p7 != y.p7) = false := by simp [e7]
          have f1 : ((x.n1 : Int) != (y.n1 : Int)) = false := by simp; omega
          have f2 : ((x.n2 : Int) != (y.n2 : Int)) = true := by simp; omega
          clear hr hr' hok hok' hz hz' hl hl' hE e0 e7 en1 en2
          go_enter Try.func36, Try.ntmps36
          go_wp2_with fail
          go_ret
          exact ⟨by rw [HE.out]; rfl, HB.out⟩
      · skip
        have HE := Lib.hid (show E = false by rw [← hE, eqL_len (f := mEqTabD) (l := x.l1.map DTab.dat) (l' := y.l1.map DTab.dat) (by simp; omega)]; simp)
        have f0 : (x.p0 != y.p0) = false := by simp [e0]
        have f7 : (x.p7 != y.p7) = false := by simp [e7]
        have f1 : ((x.n1 : Int) != (y.n1 : Int)) = true := by simp; omega
        clear hr hr' hok hok' hz hz' hl hl' hE e0 e7 en1
        go_enter Try.func36, Try.ntmps36
        go_wp2_with fail
        go_ret
        exact ⟨by rw [HE.out]; rfl, HB.out⟩
    · skip
      have HE := Lib.hid (show E = false by rw [← hE]; simp [e7])
      have f0 : (x.p0 != y.p0) = false := by simp [e0]
      have f7 : (x.p7 != y.p7) = true := by simp [e7]
      clear hr hr' hok hok' hz hz' hl hl' hE e0 e7
      go_enter Try.func36, Try.ntmps36
      go_wp2_with fail
      go_ret
      exact ⟨by rw [HE.out]; rfl, HB.out⟩
  · skip
    have HE := Lib.hid (show E = false by rw [← hE]; simp [e0])
    have f0 : (x.p0 != y.p0) = true := by simp [e0]
    clear hr hr' hok hok' hz hz' hl hl' hE e0
    go_enter Try.func36, Try.ntmps36
    go_wp2_with fail
    go_ret
    exact ⟨by rw [HE.out]; rfl, HB.out⟩

end Go.Proofs.Ytfhoemgpilpapaa
