/- TracesOf of the model. No condition of its own. -/
import Derived.Test.YtfhoemgpilpapaaTrI
import Derived.Test.YtfhoemgpilpapaaGrantsOf
import Derived.Test.YtfhoemgpilpapaaRulesOf
import Derived.Test.YtfhoemgpilpapaaTEdit
import Derived.Test.YtfhoemgpilpapaaFun
import Derived.Test.YtfhoemgpilpapaaStB
import Derived.Deep.LoopGhost
import Derived.Deep.RegionHeld3
import Derived.IntWalk
namespace Go.Proofs.Ytfhoemgpilpapaa
open Go Go.ChangeShapes Go.WideShapes Go.ChangeAt Go.RowKit Go.Lib
set_option linter.unusedVariables false
set_option linter.unusedSimpArgs false
set_option maxRecDepth 100000
set_option maxHeartbeats 4000000
theorem infoEdit : (Try.prog.info? 155).map (fun i => (i.zero, i.size, i.bytes)) = some (some (.agg #[.int .i64 0, .int .i64 0, .int .i64 0, .int .i64 0, .int .i64 0, .int .i64 0]), 6, 48) := by kernel_rfl
theorem onesEdit (x : TEdit) : ∀ u ∈ (#[.int .i64 x.f0, .int .i64 x.f1, .int .i64 x.f2, .int .i64 x.f3, .int .i64 x.f4, .int .i64 x.f5] : Array Value).toList, u.oneCell' = true := by
  intro u hu
  simp only [List.mem_cons, List.not_mem_nil, or_false] at hu
  rcases hu with rfl | rfl | rfl | rfl | rfl | rfl <;> rfl
set_option maxHeartbeats 8000000 in
theorem spec_l30EntriesT (l : List TStored) (A : Option Addr) (n c lo hi : Nat) (a1 : Int) (w : World) (hn : n ≤ 1048576) (hr : Rd w lo hi 4 A n (cStored l)) (H : Hid (cStoredOk l)) (wfa1 : (Lit.int .i64 a1).wf = true) :
    Calls Try.prog 67 #[.slice A n c, .int .i64 a1] w (Makes 142 4 (l.filter fun x => x.f0 == a1).length (cStored (l.filter fun x => x.f0 == a1)) w) := by
  have HL := Lib.hid (rd_len TStored.len hr (by decide))
  have HR := Lib.hid hr
  clear hr wfa1
  generalize hP : (fun x : TStored => x.f0 == a1) = P
  have HP := Lib.hid hP
  clear hP
  go_enter Try.func67, Try.ntmps67
  go_wp2_with fail
  go_loopg [5, 6] n (fun gg v i wr => ∃ k : Nat, k ≤ n ∧ n - k ≤ gg ∧ i = .int .i64 k ∧ Hid (wr.ownsRow w.heap.size 142 4 v ((l.take k).filter P).length (cStored ((l.take k).filter P))) ∧ Hid (Below w.heap.size w wr))
  case atStart => exact ⟨0, Nat.zero_le _, by omega, rfl, Lib.hid (World.ownsRow_lit w #[] 0 (Nat.le_refl _) (by unfold maxLen; omega) rfl), Lib.hid ((Below.refl _ _).alloc (Nat.le_refl _) _)⟩
  case round =>
    obtain ⟨k, hk, hg, rfl, HO, HB⟩ := hrel
    by_cases hlt : k < n
    · obtain ⟨b, off, x, rfl, _, _, hz, hc⟩ := rd_elem TStored.len (HR.out.new HB.out) HL.out hlt
      have c0 : wr.cell? ⟨b, off + k * 4, none⟩ = _ := hc 0 _ rfl
      have c1 := hc 1 _ rfl
      have c2 := hc 2 _ rfl
      have c3 := hc 3 _ rfl
      have hbl : b < wr.heap.size := World.block_lt_of_cell? _ _ c0
      have HE := Lib.hid (filter_sn P hz)
      have HN := Lib.hid (Nat.le_trans (List.length_filter_le P (l.take k)) (List.length_take_le _ _))
      have HPx := Lib.hid (show (x.f0 == a1) = P x by rw [← HP.out])
      clear hz hc
      by_cases h0 : (x.f0 == a1) = true
      · skip
        have H2 := Lib.hid (by have := HE.out; rwa [if_pos (by rw [← HPx.out]; simp [h0])] at this)
        clear HE HPx
        have HS := Lib.hid HB.out.size
        go_wp2_with (at_builtin; refine wp_app_lit rfl _ _ _ rfl w.heap.size 142 (.agg #[.int .i64 0, .int .i64 0, .int .i64 0, .int .i64 0]) 4 32 Try.underlying38 infoStored rfl (by decide) _ _ _ rfl HO.out #[.int .i64 x.f0, .int .i64 x.f1, .int .i64 x.f2, .int .i64 x.f3] 1 1 _ rfl (by simp) rfl (onesStored x) (by have := HN.out; unfold maxLen; omega) (by have := HN.out; omega) (by have := HS.out; omega) ?_; intro v1 w2 ho1 hb2)
        have HO2 := Lib.hid (show w2.ownsRow w.heap.size 142 4 v1 ((l.take (k + 1)).filter P).length (cStored ((l.take (k + 1)).filter P)) by rw [H2.out]; simpa [cStored, List.flatMap_append, TStored.cells] using ho1)
        have HB2 := Lib.hid (HB.out.trans hb2)
        clear ho1 hb2
        go_wp2_with fail
        go_roundg (n - (k + 1))
        case measure => omega
        case rel => exact ⟨k + 1, by omega, by omega, by go_num, HO2, HB2⟩
      · have h0 : (x.f0 == a1) = false := by simpa using h0
        have H2 := Lib.hid (by have := HE.out; rwa [if_neg (by rw [← HPx.out]; simp [h0])] at this)
        clear HE HPx
        go_wp2_with fail
        have HS := Lib.hid HB.out.size
        go_roundg (n - (k + 1))
        case measure => omega
        case rel => exact ⟨k + 1, by omega, by omega, by go_num, by rw [H2.out]; exact HO, HB⟩
    · obtain rfl : k = n := by omega
      have HO2 := Lib.hid (show wr.ownsRow w.heap.size _ _ _ (l.filter P).length (cStored (l.filter P)) by have := HO.out; rwa [List.take_of_length_le (by rw [HL.out]; omega)] at this)
      clear HO
      go_wp2_with fail
      go_ret
      exact makes_of_own HO2.out HB.out

set_option maxHeartbeats 8000000 in
theorem spec_EditsByT (l : List TEdit) (A : Option Addr) (n c lo hi : Nat) (a1 : Int) (w : World) (hn : n ≤ 1048576) (hr : Rd w lo hi 6 A n (cEdit l)) (H : Hid (cEditOk l)) (wfa1 : (Lit.int .i64 a1).wf = true) :
    Calls Try.prog 71 #[.slice A n c, .int .i64 a1] w (Makes 155 6 (l.filter fun x => x.f5 == a1).length (cEdit (l.filter fun x => x.f5 == a1)) w) := by
  have HL := Lib.hid (rd_len TEdit.len hr (by decide))
  have HR := Lib.hid hr
  clear hr wfa1
  generalize hP : (fun x : TEdit => x.f5 == a1) = P
  have HP := Lib.hid hP
  clear hP
  go_enter Try.func71, Try.ntmps71
  go_wp2_with fail
  go_loopg [5, 6] n (fun gg v i wr => ∃ k : Nat, k ≤ n ∧ n - k ≤ gg ∧ i = .int .i64 k ∧ Hid (wr.ownsRow w.heap.size 155 6 v ((l.take k).filter P).length (cEdit ((l.take k).filter P))) ∧ Hid (Below w.heap.size w wr))
  case atStart => exact ⟨0, Nat.zero_le _, by omega, rfl, Lib.hid (World.ownsRow_lit w #[] 0 (Nat.le_refl _) (by unfold maxLen; omega) rfl), Lib.hid ((Below.refl _ _).alloc (Nat.le_refl _) _)⟩
  case round =>
    obtain ⟨k, hk, hg, rfl, HO, HB⟩ := hrel
    by_cases hlt : k < n
    · obtain ⟨b, off, x, rfl, _, _, hz, hc⟩ := rd_elem TEdit.len (HR.out.new HB.out) HL.out hlt
      have c0 : wr.cell? ⟨b, off + k * 6, none⟩ = _ := hc 0 _ rfl
      have c1 := hc 1 _ rfl
      have c2 := hc 2 _ rfl
      have c3 := hc 3 _ rfl
      have c4 := hc 4 _ rfl
      have c5 := hc 5 _ rfl
      have hbl : b < wr.heap.size := World.block_lt_of_cell? _ _ c0
      have HE := Lib.hid (filter_sn P hz)
      have HN := Lib.hid (Nat.le_trans (List.length_filter_le P (l.take k)) (List.length_take_le _ _))
      have HPx := Lib.hid (show (x.f5 == a1) = P x by rw [← HP.out])
      clear hz hc
      by_cases h0 : (x.f5 == a1) = true
      · skip
        have H2 := Lib.hid (by have := HE.out; rwa [if_pos (by rw [← HPx.out]; simp [h0])] at this)
        clear HE HPx
        have HS := Lib.hid HB.out.size
        go_wp2_with (at_builtin; refine wp_app_lit rfl _ _ _ rfl w.heap.size 155 (.agg #[.int .i64 0, .int .i64 0, .int .i64 0, .int .i64 0, .int .i64 0, .int .i64 0]) 6 48 Try.underlying97 infoEdit rfl (by decide) _ _ _ rfl HO.out #[.int .i64 x.f0, .int .i64 x.f1, .int .i64 x.f2, .int .i64 x.f3, .int .i64 x.f4, .int .i64 x.f5] 1 1 _ rfl (by simp) rfl (onesEdit x) (by have := HN.out; unfold maxLen; omega) (by have := HN.out; omega) (by have := HS.out; omega) ?_; intro v1 w2 ho1 hb2)
        have HO2 := Lib.hid (show w2.ownsRow w.heap.size 155 6 v1 ((l.take (k + 1)).filter P).length (cEdit ((l.take (k + 1)).filter P)) by rw [H2.out]; simpa [cEdit, List.flatMap_append, TEdit.cells] using ho1)
        have HB2 := Lib.hid (HB.out.trans hb2)
        clear ho1 hb2
        go_wp2_with fail
        go_roundg (n - (k + 1))
        case measure => omega
        case rel => exact ⟨k + 1, by omega, by omega, by go_num, HO2, HB2⟩
      · have h0 : (x.f5 == a1) = false := by simpa using h0
        have H2 := Lib.hid (by have := HE.out; rwa [if_neg (by rw [← HPx.out]; simp [h0])] at this)
        clear HE HPx
        go_wp2_with fail
        have HS := Lib.hid HB.out.size
        go_roundg (n - (k + 1))
        case measure => omega
        case rel => exact ⟨k + 1, by omega, by omega, by go_num, by rw [H2.out]; exact HO, HB⟩
    · obtain rfl : k = n := by omega
      have HO2 := Lib.hid (show wr.ownsRow w.heap.size _ _ _ (l.filter P).length (cEdit (l.filter P)) by have := HO.out; rwa [List.take_of_length_le (by rw [HL.out]; omega)] at this)
      clear HO
      go_wp2_with fail
      go_ret
      exact makes_of_own HO2.out HB.out

theorem mTraces_eq (x : DBrowser) (a : Int) : mTraces x.dat a = ((x.l3.filter fun y => y.f0 == a).length : Int) + (x.l5.filter fun y => y.f0 == a).length + (x.l6.filter fun y => y.f0 == a).length + (x.l2.filter fun y => y.p0 == a).length + ((auth x.l1).filter fun z => z == a).length := by
  have e0 : ((mHold x.dat 0).filter fun z => z == a).length = (x.l2.filter fun y => y.p0 == a).length := by
    simp only [mHold, DBrowser.dat, List.map_map, List.filter_map, List.length_map]; rfl
  have e1 : ((mHold x.dat 1).filter fun z => z == a).length = (x.l3.filter fun y => y.f0 == a).length := by
    simp only [mHold, DBrowser.dat, List.filter_map, List.length_map]; rfl
  have e2 : ((mHold x.dat 2).filter fun z => z == a).length = (x.l5.filter fun y => y.f0 == a).length := by
    simp only [mHold, DBrowser.dat, List.filter_map, List.length_map]; rfl
  have e3 : ((mHold x.dat 3).filter fun z => z == a).length = (x.l6.filter fun y => y.f0 == a).length := by
    simp only [mHold, DBrowser.dat, List.filter_map, List.length_map]; rfl
  have e4 : ((mHold x.dat 4).filter fun z => z == a).length = ((auth x.l1).filter fun z => z == a).length := by
    rw [show mHold x.dat 4 = auth x.l1 from auth_eq x]
  unfold mTraces
  rw [show trS x.dat a 5 = ((mHold x.dat 0).filter fun z => z == a).length + ((mHold x.dat 1).filter fun z => z == a).length + ((mHold x.dat 2).filter fun z => z == a).length + ((mHold x.dat 3).filter fun z => z == a).length + ((mHold x.dat 4).filter fun z => z == a).length by
    rw [trS_succ, trS_succ, trS_succ, trS_succ, trS_succ]; simp [trS]]
  rw [e0, e1, e2, e3, e4]
  push_cast
  omega
theorem auth_cnt {l : List DTab} {k : Nat} {t : DTab} (a : Int) (h : l[k]? = some t) : ((auth (l.take (k + 1))).filter fun z => z == a).length = ((auth (l.take k)).filter fun z => z == a).length + (t.l2.filter fun y => y.f5 == a).length := by
  rw [auth_one h, List.filter_append, List.length_append, List.filter_map, List.length_map]; rfl
theorem pk_cnt {l : List DPackage} {k : Nat} {p : DPackage} (a : Int) (h : l[k]? = some p) : ((l.take (k + 1)).filter fun y => y.p0 == a).length = ((l.take k).filter fun y => y.p0 == a).length + (if p.p0 == a then 1 else 0) := by
  rw [List.take_add_one, h, Option.toList_some, List.filter_append, List.length_append]
  cases hq : p.p0 == a <;> simp [hq]
set_option maxHeartbeats 8000000 in
theorem spec_TracesOf (x : DBrowser) (m : MBrowser) (lo hi : Nat) (a : Int) (w : World) (hd : x.dat = m) (hz : m.sz ≤ 1048576) (hok : m.ok) (hr : x.rd w lo hi) (wfa : (Lit.int .i64 a).wf = true) :
    Calls Try.prog 26 #[.agg #[.int .i64 x.p0, .slice x.A1 x.n1 x.c1, .slice x.A2 x.n2 x.c2, .slice x.A3 x.n3 x.c3, .slice x.A4 x.n4 x.c4, .slice x.A5 x.n5 x.c5, .slice x.A6 x.n6 x.c6, .int .i64 x.p7], .int .i64 a] w (Says (.int .i64 (mTraces m a)) w) := by
  subst hd
  have hzs := hz
  rw [hr.sz] at hz
  have hz' : x.n1 + x.n2 + x.n3 + x.n4 + x.n5 + x.n6 ≤ 1048576 := by omega
  have CG := Lib.hid (fun W (hb : Below w.heap.size w W) => spec_GrantsOf x.l3 x.A3 x.n3 x.c3 lo hi a W (by omega) (hr.2.2.1.2.new hb) hok.2.2.2.1 wfa)
  have CR := Lib.hid (fun W (hb : Below w.heap.size w W) => spec_RulesOf x.l5 x.A5 x.n5 x.c5 lo hi a W (by omega) (hr.2.2.2.2.1.2.new hb) hok.2.2.2.2.2.1 wfa)
  have CS := Lib.hid (fun W (hb : Below w.heap.size w W) => spec_l30EntriesT x.l6 x.A6 x.n6 x.c6 lo hi a W (by omega) (hr.2.2.2.2.2.2.new hb) hok.2.2.2.2.2.2.1 wfa)
  have HTZ := Lib.hid (fun (k : Nat) (t : DTab) (h : x.l1[k]? = some t) => Nat.le_trans (MTab.szs_mem (x.l1.map DTab.dat) k t.dat (by rw [List.getElem?_map, h]; rfl)) (show MTab.szs (x.l1.map DTab.dat) ≤ 1048576 by omega))
  have HTO := Lib.hid (fun (k : Nat) (t : DTab) (h : x.l1[k]? = some t) => (hok.2.1 t.dat (List.mem_map.2 ⟨t, List.mem_of_getElem? h, rfl⟩)).2.2.1)
  have CE := Lib.hid (fun (t : DTab) W (h1 : t.n2 ≤ 1048576) (h2 : Rd W lo hi 6 t.A2 t.n2 (cEdit t.l2)) h3 => spec_EditsByT t.l2 t.A2 t.n2 t.c2 lo hi a W h1 h2 h3 wfa)
  have hg := Nat.le_trans (List.length_filter_le (fun y : TGrant => y.f0 == a) x.l3) (show x.l3.length ≤ 1048576 by have := hr.len.2.2.1; omega)
  have hu := Nat.le_trans (List.length_filter_le (fun y : TRule => y.f0 == a) x.l5) (show x.l5.length ≤ 1048576 by have := hr.len.2.2.2.2.1; omega)
  have hv := Nat.le_trans (List.length_filter_le (fun y : TStored => y.f0 == a) x.l6) (show x.l6.length ≤ 1048576 by have := hr.len.2.2.2.2.2; omega)
  rw [mTraces_eq]
  have HL1 := Lib.hid hr.1.len
  have HL2 := Lib.hid hr.2.1.len
  have HR1 := Lib.hid hr.1
  have HR2 := Lib.hid hr.2.1
  have HA := Lib.hid (fun k => Nat.le_trans (List.length_filter_le (fun z => z == a) _) (Nat.le_trans (auth_take x.l1 k) (show MTab.szs (x.l1.map DTab.dat) ≤ 1048576 by omega)))
  have HP := Lib.hid (fun k => Nat.le_trans (List.length_filter_le (fun y : DPackage => y.p0 == a) (x.l2.take k)) (Nat.le_trans (List.length_take_le _ _) (show k ≤ k from Nat.le_refl _)))
  have hn1 : x.n1 ≤ 1048576 := by omega
  have hn2 : x.n2 ≤ 1048576 := by omega
  generalize (x.l3.filter fun y => y.f0 == a) = lg at CG hg ⊢
  generalize (x.l5.filter fun y => y.f0 == a) = lr at CR hu ⊢
  generalize (x.l6.filter fun y => y.f0 == a) = ls at CS hv ⊢
  clear hr hz hzs hok wfa hz'
  have KB0 := box_new w 40 #[.int .i64 x.p0, .slice x.A1 x.n1 x.c1, .slice x.A2 x.n2 x.c2, .slice x.A3 x.n3 x.c3, .slice x.A4 x.n4 x.c4, .slice x.A5 x.n5 x.c5, .slice x.A6 x.n6 x.c6, .int .i64 x.p7]
  replace KB0 := Lib.hid KB0.drw
  have HB0 := Lib.hid (show Below w.heap.size w (w.alloc (.cells #[.int .i64 x.p0, .slice x.A1 x.n1 x.c1, .slice x.A2 x.n2 x.c2, .slice x.A3 x.n3 x.c3, .slice x.A4 x.n4 x.c4, .slice x.A5 x.n5 x.c5, .slice x.A6 x.n6 x.c6, .int .i64 x.p7] 40)).drew from ((Below.refl w.heap.size w).alloc (Nat.le_refl _) _).drew)
  go_enter Try.func26, Try.ntmps26
  go_wp2_with fail
  go_region_held3 (fun w' => w'.cell? ⟨w.heap.size, 0, none⟩ = some (.int .i64 x.p0) ∧ w'.cell? ⟨w.heap.size, 1, none⟩ = some (.slice x.A1 x.n1 x.c1) ∧ w'.cell? ⟨w.heap.size, 2, none⟩ = some (.slice x.A2 x.n2 x.c2) ∧ w'.cell? ⟨w.heap.size, 3, none⟩ = some (.slice x.A3 x.n3 x.c3) ∧ w'.cell? ⟨w.heap.size, 4, none⟩ = some (.slice x.A4 x.n4 x.c4) ∧ w'.cell? ⟨w.heap.size, 5, none⟩ = some (.slice x.A5 x.n5 x.c5) ∧ w'.cell? ⟨w.heap.size, 6, none⟩ = some (.slice x.A6 x.n6 x.c6) ∧ w'.cell? ⟨w.heap.size, 7, none⟩ = some (.int .i64 x.p7))
    (exact ⟨KB0.out.at_ rfl, KB0.out.at_ rfl, KB0.out.at_ rfl, KB0.out.at_ rfl, KB0.out.at_ rfl, KB0.out.at_ rfl, KB0.out.at_ rfl, KB0.out.at_ rfl⟩)
    (first
      | (go_at_call 69; (fail_if_success (have hx := B1)); refine Calls.mono (CG.out _ HB0.out) ?_; rintro e w1 ⟨G1, g1, rfl, _, B1⟩; (replace KB0 := Lib.hid (KB0.out.new B1)); (replace HB0 := Lib.hid (below_trans HB0.out B1 (Nat.le_refl _))))
      | (go_at_call 70; (fail_if_success (have hx := B2)); refine Calls.mono (CR.out _ HB0.out) ?_; rintro e w2 ⟨G2, g2, rfl, _, B2⟩; (replace KB0 := Lib.hid (KB0.out.new B2)); (replace HB0 := Lib.hid (below_trans HB0.out B2 (Nat.le_refl _))))
      | (go_at_call 67; (fail_if_success (have hx := B3)); refine Calls.mono (CS.out _ HB0.out) ?_; rintro e w3 ⟨G3, g3, rfl, _, B3⟩; (replace KB0 := Lib.hid (KB0.out.new B3)); (replace HB0 := Lib.hid (below_trans HB0.out B3 (Nat.le_refl _)))))
  clear B1 B2 B3
  generalize hhng : lg.length = ng at hg ⊢
  replace hhng := Lib.hid hhng
  generalize hhnr : lr.length = nr at hu ⊢
  replace hhnr := Lib.hid hhnr
  generalize hhns : ls.length = ns at hv ⊢
  replace hhns := Lib.hid hhns
  obtain ⟨T0, hT0⟩ : ∃ T0 : Nat, T0 = ng + nr + ns := ⟨_, rfl⟩
  have hT0b : T0 ≤ 3145728 := by omega
  have he0 : (ng : Int) + nr + ns = (T0 : Int) := by omega
  have he1 : (ng : Int) + (nr : Int) = ((ng + nr : Nat) : Int) := by omega
  have he2 : IntKind.i64.wrap (IntKind.i64.wrap ((ng : Int) + (nr : Int)) + (ns : Int)) = (T0 : Int) := by rw [IntWalk.i64_in ((ng : Int) + (nr : Int)) (by omega), IntWalk.i64_in ((ng : Int) + (nr : Int) + (ns : Int)) (by omega)]; omega
  try rw [he2]
  clear hg hu hv
  go_wp2_with fail
  go_loopg [5, 6] x.n2 (fun gg n i wr => ∃ k : Nat, k ≤ x.n2 ∧ x.n2 - k ≤ gg ∧ i = .int .i64 k ∧ n = .int .i64 ((T0 + ((x.l2.take k).filter fun y => y.p0 == a).length : Nat) : Int) ∧ Hid (BoxAt wr w.heap.size 40 #[.int .i64 x.p0, .slice x.A1 x.n1 x.c1, .slice x.A2 x.n2 x.c2, .slice x.A3 x.n3 x.c3, .slice x.A4 x.n4 x.c4, .slice x.A5 x.n5 x.c5, .slice x.A6 x.n6 x.c6, .int .i64 x.p7]) ∧ Hid (Below w.heap.size w wr))
  case atStart => exact ⟨0, Nat.zero_le _, by omega, rfl, (by simp; try omega), KB0, HB0⟩
  case round =>
    obtain ⟨k, hk, hg, rfl, rfl, KB, HB⟩ := hrel
    have k0 : wr.cell? ⟨w.heap.size, 0, none⟩ = some (.int .i64 x.p0) := KB.out.at_ rfl
    have k1 : wr.cell? ⟨w.heap.size, 1, none⟩ = some (.slice x.A1 x.n1 x.c1) := KB.out.at_ rfl
    have k2 : wr.cell? ⟨w.heap.size, 2, none⟩ = some (.slice x.A2 x.n2 x.c2) := KB.out.at_ rfl
    have k3 : wr.cell? ⟨w.heap.size, 3, none⟩ = some (.slice x.A3 x.n3 x.c3) := KB.out.at_ rfl
    have k4 : wr.cell? ⟨w.heap.size, 4, none⟩ = some (.slice x.A4 x.n4 x.c4) := KB.out.at_ rfl
    have k5 : wr.cell? ⟨w.heap.size, 5, none⟩ = some (.slice x.A5 x.n5 x.c5) := KB.out.at_ rfl
    have k6 : wr.cell? ⟨w.heap.size, 6, none⟩ = some (.slice x.A6 x.n6 x.c6) := KB.out.at_ rfl
    have k7 : wr.cell? ⟨w.heap.size, 7, none⟩ = some (.int .i64 x.p7) := KB.out.at_ rfl
    by_cases hlt : k < x.n2
    · obtain ⟨b, off, p, hA, _, _, hzz, hc⟩ := rd_elem DPackage.len (HR2.out.new HB.out).2.1 HL2.out hlt
      rw [hA] at k2
      have c0 : wr.cell? ⟨b, off + k * 8, none⟩ = some (.int .i64 p.p0) := hc 0 _ rfl
      have HE := Lib.hid (pk_cnt a hzz)
      have hb := HP.out k
      clear hzz hc hA
      generalize ((x.l2.take k).filter fun y => y.p0 == a).length = cn at HE hb ⊢
      obtain ⟨S, hSe, hS⟩ : ∃ S : Nat, T0 + cn = S ∧ S ≤ 4294967296 := ⟨_, rfl, by omega⟩
      rw [hSe]
      replace hSe := Lib.hid hSe
      generalize hq : (p.p0 == a) = q at HE
      cases q
      · go_wp2_with fail
        go_roundg (x.n2 - (k + 1))
        case measure => omega
        case rel => exact ⟨k + 1, by omega, by omega, by go_num, by rw [HE.out, ← hSe.out]; rfl, by first | exact KB | exact Lib.hid KB.out, by first | exact HB | exact Lib.hid (below_dN HB.out _)⟩
      · go_wp2_with fail
        go_roundg (x.n2 - (k + 1))
        case measure => omega
        case rel => exact ⟨k + 1, by omega, by omega, by go_num, (by have h1 := hSe.out; rw [HE.out]; simp only [if_true]; congr 1; push_cast; omega), by first | exact KB | exact Lib.hid KB.out, by first | exact HB | exact Lib.hid (below_dN HB.out _)⟩
    · obtain rfl : k = x.n2 := by omega
      have hbp := HP.out x.n2
      rw [List.take_of_length_le (by rw [HL2.out]; omega)]
      rw [List.take_of_length_le (by rw [HL2.out]; omega)] at hbp
      obtain ⟨T1, hT1⟩ : ∃ T1 : Nat, T1 = T0 + (x.l2.filter fun y => y.p0 == a).length := ⟨_, rfl⟩
      rw [← hT1]
      have hT1b : T1 ≤ 4194304 := by omega
      have HEnd := Lib.hid (show (ng : Int) + nr + ns + (x.l2.filter fun y => y.p0 == a).length + ((auth x.l1).filter fun z => z == a).length = ((T1 + ((auth x.l1).filter fun z => z == a).length : Nat) : Int) by push_cast; omega)
      clear hT1 hT0 he0 he1 he2 hbp hT0b
      go_wp2_with fail
      have KC := KB
      have HC := HB
      clear KB HB k0 k1 k2 k3 k4 k5 k6 k7
      go_loopg [5, 7] x.n1 (fun gg n i wr => ∃ k : Nat, k ≤ x.n1 ∧ x.n1 - k ≤ gg ∧ i = .int .i64 k ∧ n = .int .i64 ((T1 + ((auth (x.l1.take k)).filter fun z => z == a).length : Nat) : Int) ∧ Hid (BoxAt wr w.heap.size 40 #[.int .i64 x.p0, .slice x.A1 x.n1 x.c1, .slice x.A2 x.n2 x.c2, .slice x.A3 x.n3 x.c3, .slice x.A4 x.n4 x.c4, .slice x.A5 x.n5 x.c5, .slice x.A6 x.n6 x.c6, .int .i64 x.p7]) ∧ Hid (Below w.heap.size w wr))
      case atStart => exact ⟨0, Nat.zero_le _, by omega, rfl, (by simp [auth]), by first | exact KC | exact Lib.hid KC.out, by first | exact HC | exact Lib.hid (below_dN HC.out _)⟩
      case round =>
        obtain ⟨k, hk, hg, rfl, rfl, KB, HB⟩ := hrel
        have k0 : wr.cell? ⟨w.heap.size, 0, none⟩ = some (.int .i64 x.p0) := KB.out.at_ rfl
        have k1 : wr.cell? ⟨w.heap.size, 1, none⟩ = some (.slice x.A1 x.n1 x.c1) := KB.out.at_ rfl
        have k2 : wr.cell? ⟨w.heap.size, 2, none⟩ = some (.slice x.A2 x.n2 x.c2) := KB.out.at_ rfl
        have k3 : wr.cell? ⟨w.heap.size, 3, none⟩ = some (.slice x.A3 x.n3 x.c3) := KB.out.at_ rfl
        have k4 : wr.cell? ⟨w.heap.size, 4, none⟩ = some (.slice x.A4 x.n4 x.c4) := KB.out.at_ rfl
        have k5 : wr.cell? ⟨w.heap.size, 5, none⟩ = some (.slice x.A5 x.n5 x.c5) := KB.out.at_ rfl
        have k6 : wr.cell? ⟨w.heap.size, 6, none⟩ = some (.slice x.A6 x.n6 x.c6) := KB.out.at_ rfl
        have k7 : wr.cell? ⟨w.heap.size, 7, none⟩ = some (.int .i64 x.p7) := KB.out.at_ rfl
        by_cases hlt : k < x.n1
        · obtain ⟨b, off, t, hA, _, _, hzz, hc⟩ := rd_elem DTab.len (HR1.out.new HB.out).2.1 HL1.out hlt
          have HX := Lib.hid ((HR1.out.new HB.out).at_ hzz)
          rw [hA] at k1
          have c3 : wr.cell? ⟨b, off + k * 6 + 3, none⟩ = some (.slice t.A2 t.n2 t.c2) := hc 3 _ rfl
          have HE := Lib.hid (auth_cnt a hzz)
          have hb := HA.out k
          have hb2 := HA.out (k + 1)
          rw [HE.out] at hb2
          have HT := Lib.hid (HTZ.out k t hzz)
          have hz2 : t.n2 ≤ 1048576 := by have := HT.out; rw [DTab.rd_sz HX.out] at this; omega
          have HCE := Lib.hid (CE.out t wr hz2 HX.out.2.1.2 (HTO.out k t hzz))
          clear hzz hc hA
          generalize ((auth (x.l1.take k)).filter fun z => z == a).length = cn at HE hb hb2 ⊢
          generalize (t.l2.filter fun y => y.f5 == a) = le at HE HCE hb2
          obtain ⟨S, hSe, hS⟩ : ∃ S : Nat, T1 + cn = S ∧ S ≤ 4294967296 := ⟨_, rfl, by omega⟩
          rw [hSe]
          replace hSe := Lib.hid hSe
          have hle : le.length ≤ 1048576 := by omega
          go_wp2_with (go_at_call 71; refine Calls.mono HCE.out ?_; rintro e w5 ⟨E5, e5, rfl, _, hb5⟩; (have KB5 := Lib.hid (KB.out.new hb5)); (have HB5 := Lib.hid (below_trans HB.out hb5 (Nat.le_refl _))); clear hb5 c3 k0 k1 k2 k3 k4 k5 k6 k7)
          go_roundg (x.n1 - (k + 1))
          case measure => omega
          case rel => exact ⟨k + 1, by omega, by omega, by go_num, (by have h1 := hSe.out; rw [HE.out]; congr 1; push_cast; omega), KB5, HB5⟩
        · obtain rfl : k = x.n1 := by omega
          rw [List.take_of_length_le (by rw [HL1.out]; omega)]
          go_wp2_with fail
          go_ret
          exact ⟨by rw [hhng.out, hhnr.out, hhns.out, HEnd.out]; rfl, by first | exact HB.out | exact below_dN HB.out _⟩

end Go.Proofs.Ytfhoemgpilpapaa
