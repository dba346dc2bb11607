/- EditShare of the model. No condition of its own. -/
import Derived.Test.YtkegapaococmcaaShr
import Derived.Test.YtkegapaococmcaaTEdit
import Derived.Test.YtkegapaococmcaaFun
import Derived.Deep.LoopGhost
namespace Go.Proofs.Ytkegapaococmcaa
open Go Go.ChangeShapes Go.WideShapes Go.ChangeAt Go.RowKit Go.Lib
set_option linter.unusedVariables false
set_option linter.unusedSimpArgs false
set_option maxRecDepth 100000
set_option maxHeartbeats 4000000
theorem infoEdit : (Try.prog.info? 102).map (fun i => (i.zero, i.size, i.bytes)) = some (some (.agg #[.int .i64 0, .int .i64 0, .int .i64 0, .int .i64 0, .int .i64 0, .int .i64 0]), 6, 48) := by kernel_rfl
theorem onesEdit (x : TEdit) : ∀ u ∈ (#[.int .i64 x.f0, .int .i64 x.f1, .int .i64 x.f2, .int .i64 x.f3, .int .i64 x.f4, .int .i64 x.f5] : Array Value).toList, u.oneCell' = true := by
  intro u hu
  simp only [List.mem_cons, List.not_mem_nil, or_false] at hu
  rcases hu with rfl | rfl | rfl | rfl | rfl | rfl <;> rfl
set_option maxHeartbeats 8000000 in
theorem spec_WithoutByT (l : List TEdit) (A : Option Addr) (n c lo hi : Nat) (a1 : Int) (w : World) (hn : n ≤ 1048576) (hr : Rd w lo hi 6 A n (cEdit l)) (H : Hid (cEditOk l)) (wfa1 : (Lit.int .i64 a1).wf = true) :
    Calls Try.prog 22 #[.slice A n c, .int .i64 a1] w (Makes 102 6 (l.filter fun x => x.f5 != a1).length (cEdit (l.filter fun x => x.f5 != a1)) w) := by
  have HL := Lib.hid (rd_len TEdit.len hr (by decide))
  have HR := Lib.hid hr
  clear hr wfa1
  generalize hP : (fun x : TEdit => x.f5 != a1) = P
  have HP := Lib.hid hP
  clear hP
  go_enter Try.func22, Try.ntmps22
  go_wp2_with fail
  go_loopg [5, 6] n (fun gg v i wr => ∃ k : Nat, k ≤ n ∧ n - k ≤ gg ∧ i = .int .i64 k ∧ Hid (wr.ownsRow w.heap.size 102 6 v ((l.take k).filter P).length (cEdit ((l.take k).filter P))) ∧ Hid (Below w.heap.size w wr))
  case atStart => exact ⟨0, Nat.zero_le _, by omega, rfl, Lib.hid (World.ownsRow_lit w #[] 0 (Nat.le_refl _) (by unfold maxLen; omega) rfl), Lib.hid ((Below.refl _ _).alloc (Nat.le_refl _) _)⟩
  case round =>
    obtain ⟨k, hk, hg, rfl, HO, HB⟩ := hrel
    by_cases hlt : k < n
    · obtain ⟨b, off, x, rfl, _, _, hz, hc⟩ := rd_elem TEdit.len (HR.out.new HB.out) HL.out hlt
      have c0 : wr.cell? ⟨b, off + k * 6, none⟩ = _ := hc 0 _ rfl
      have c1 := hc 1 _ rfl
      have c2 := hc 2 _ rfl
      have c3 := hc 3 _ rfl
      have c4 := hc 4 _ rfl
      have c5 := hc 5 _ rfl
      have hbl : b < wr.heap.size := World.block_lt_of_cell? _ _ c0
      have HE := Lib.hid (filter_sn P hz)
      have HN := Lib.hid (Nat.le_trans (List.length_filter_le P (l.take k)) (List.length_take_le _ _))
      have HPx := Lib.hid (show (x.f5 != a1) = P x by rw [← HP.out])
      clear hz hc
      by_cases h0 : (x.f5 != a1) = true
      · skip
        have H2 := Lib.hid (by have := HE.out; rwa [if_pos (by rw [← HPx.out]; simp [h0])] at this)
        clear HE HPx
        have HS := Lib.hid HB.out.size
        go_wp2_with (at_builtin; refine wp_app_lit rfl _ _ _ rfl w.heap.size 102 (.agg #[.int .i64 0, .int .i64 0, .int .i64 0, .int .i64 0, .int .i64 0, .int .i64 0]) 6 48 Try.underlying61 infoEdit rfl (by decide) _ _ _ rfl HO.out #[.int .i64 x.f0, .int .i64 x.f1, .int .i64 x.f2, .int .i64 x.f3, .int .i64 x.f4, .int .i64 x.f5] 1 1 _ rfl (by simp) rfl (onesEdit x) (by have := HN.out; unfold maxLen; omega) (by have := HN.out; omega) (by have := HS.out; omega) ?_; intro v1 w2 ho1 hb2)
        have HO2 := Lib.hid (show w2.ownsRow w.heap.size 102 6 v1 ((l.take (k + 1)).filter P).length (cEdit ((l.take (k + 1)).filter P)) by rw [H2.out]; simpa [cEdit, List.flatMap_append, TEdit.cells] using ho1)
        have HB2 := Lib.hid (HB.out.trans hb2)
        clear ho1 hb2
        go_wp2_with fail
        go_roundg (n - (k + 1))
        case measure => omega
        case rel => exact ⟨k + 1, by omega, by omega, by go_num, HO2, HB2⟩
      · have h0 : (x.f5 != a1) = false := by simpa using h0
        have H2 := Lib.hid (by have := HE.out; rwa [if_neg (by rw [← HPx.out]; simp [h0])] at this)
        clear HE HPx
        go_wp2_with fail
        have HS := Lib.hid HB.out.size
        go_roundg (n - (k + 1))
        case measure => omega
        case rel => exact ⟨k + 1, by omega, by omega, by go_num, by rw [H2.out]; exact HO, HB⟩
    · obtain rfl : k = n := by omega
      have HO2 := Lib.hid (show wr.ownsRow w.heap.size _ _ _ (l.filter P).length (cEdit (l.filter P)) by have := HO.out; rwa [List.take_of_length_le (by rw [HL.out]; omega)] at this)
      clear HO
      go_wp2_with fail
      go_ret
      exact makes_of_own HO2.out HB.out

set_option maxHeartbeats 8000000 in
theorem spec_EditShare (x : DBrowser) (m : MBrowser) (lo hi : Nat) (a : Int) (w : World) (hd : x.dat = m) (hz : m.sz ≤ 1048576) (hok : m.ok) (hr : x.rd w lo hi) (hc : x.caps) :
    Calls Try.prog 6 #[.agg #[.int .i64 x.p0, .slice x.A1 x.n1 x.c1, .slice x.A2 x.n2 x.c2, .slice x.A3 x.n3 x.c3, .slice x.A4 x.n4 x.c4, .slice x.A5 x.n5 x.c5, .slice x.A6 x.n6 x.c6, .int .i64 x.p7], .int .i64 a] w (Says (.tuple #[.int .i64 (mShG m a), .int .i64 (mShA m a)]) w) := by
  subst hd
  have hl : (x.n1 : Int) = (x.l1.length : Int) := by have := hr.1.len; omega
  have CH := Lib.hid (fun W => says_of_same (spec_in a 0 ((x.n1 : Int) - 1) W))
  have HR := Lib.hid hr
  have hn1 : x.n1 ≤ 1048576 := by rw [hr.sz] at hz; omega
  cases hin : inR a 0 ((x.l1.length : Int) - 1) with
  | false =>
    rw [hl, hin] at CH
    have HN := Lib.hid (mTabAt_no hin)
    have e1 : mShG x.dat a = 0 := by unfold mShG; rw [HN.out]
    have e2 : mShA x.dat a = 0 := by unfold mShA; rw [HN.out]
    rw [e1, e2]
    rw [← hl] at CH
    clear hin hr hz hok hc hl e1 e2
    go_enter Try.func6, Try.ntmps6
    go_wp2_with fail
    refine (CH.out _).mono ?_
    rintro e w1 ⟨rfl, hb1⟩
    have HB1 := Lib.hid (below_trans ((Below.refl w.heap.size w).alloc (Nat.le_refl _) _) hb1 (by simp))
    clear hb1
    go_wp2_with fail
    exact bodyPost_ret (v := .tuple #[.int .i64 0, .int .i64 0]) (by simp [results, Try.results6, go_sem]) rfl ⟨rfl, HB1.out⟩
  | true =>
    rw [hl, hin, ← hl] at CH
    obtain ⟨k, t, rfl, hk, hkt, hat⟩ := mTabAt_yes hin
    have e1 : mShG x.dat (k : Int) = ((t.l2.filter fun e => e.f5 != 0).length : Int) := by unfold mShG; rw [hat]; rfl
    have e2 : mShA x.dat (k : Int) = (t.l2.length : Int) := by unfold mShA; rw [hat]; rfl
    rw [e1, e2]
    have hln := hr.1.len
    have hkn : k < x.n1 := by omega
    have htz := MTab.szs_mem (x.l1.map DTab.dat) k t.dat (by rw [List.getElem?_map, hkt]; rfl)
    have htz2 : t.dat.sz ≤ 1048575 := by rw [hr.sz] at hz; omega
    have hto : t.dat.ok := hok.2.1 t.dat (List.mem_map.2 ⟨t, List.mem_of_getElem? hkt, rfl⟩)
    have HX := hr.1.at_ hkt
    have ht2 : t.n2 ≤ 1048576 := by rw [DTab.rd_sz HX] at htz2; omega
    have hl2 : t.l2.length = t.n2 := (DTab.rd_lens HX).2.1
    rw [hl2]
    have CW := Lib.hid (fun W (hb : Below w.heap.size w W) => spec_WithoutByT t.l2 t.A2 t.n2 t.c2 lo hi 0 W ht2 (HX.2.1.2.new hb) hto.2.2.1 (by decide))
    have hle : (t.l2.filter fun e => e.f5 != 0).length ≤ 1048576 := Nat.le_trans (List.length_filter_le _ _) (by omega)
    generalize (t.l2.filter fun e => e.f5 != 0) = L at CW hle ⊢
    obtain ⟨b, off, t2, hA, hlo, hhi, hkt2, hcc⟩ := rd_elem DTab.len hr.1.2.1 hln hkn
    obtain rfl : t = t2 := Option.some.inj (hkt.symm.trans hkt2)
    have HCC := Lib.hid (show w.cell? ⟨b, off + k * 6 + 3, none⟩ = some (.slice t.A2 t.n2 t.c2) from hcc 3 _ rfl)
    have KB0 := Lib.hid (show BoxAt (w.alloc (.cells #[.int .i64 x.p0, .slice x.A1 x.n1 x.c1, .slice x.A2 x.n2 x.c2, .slice x.A3 x.n3 x.c3, .slice x.A4 x.n4 x.c4, .slice x.A5 x.n5 x.c5, .slice x.A6 x.n6 x.c6, .int .i64 x.p7] 40)) w.heap.size 40 #[.int .i64 x.p0, .slice (some ⟨b, off, none⟩) x.n1 x.c1, .slice x.A2 x.n2 x.c2, .slice x.A3 x.n3 x.c3, .slice x.A4 x.n4 x.c4, .slice x.A5 x.n5 x.c5, .slice x.A6 x.n6 x.c6, .int .i64 x.p7] by rw [← hA]; exact box_new w 40 #[.int .i64 x.p0, .slice x.A1 x.n1 x.c1, .slice x.A2 x.n2 x.c2, .slice x.A3 x.n3 x.c3, .slice x.A4 x.n4 x.c4, .slice x.A5 x.n5 x.c5, .slice x.A6 x.n6 x.c6, .int .i64 x.p7])
    replace hA := Lib.hid hA
    clear hin hr hz hok hc hl e1 e2 hat hkt hkt2 hcc htz htz2 hto hln HX hl2
    go_enter Try.func6, Try.ntmps6
    go_wp2_with fail
    refine (CH.out _).mono ?_
    rintro e w1 ⟨rfl, hb1⟩
    have HB1 := Lib.hid (below_trans ((Below.refl w.heap.size w).alloc (Nat.le_refl _) _) hb1 (by simp))
    have KB1 := Lib.hid (KB0.out.new hb1)
    have k1 := KB1.out.at_ (j := 1) rfl
    have c3 := cell_nw HB1.out HCC.out
    clear hb1
    go_wp2_with fail
    refine (CW.out _ HB1.out).mono ?_
    rintro e w2 ⟨A2, d2, rfl, _, hb2⟩
    have HB2 := Lib.hid (below_trans HB1.out hb2 (Nat.le_refl _))
    clear hb2 c3 k1
    go_wp2_with fail
    exact bodyPost_ret (v := .tuple #[.int .i64 (L.length : Int), .int .i64 (t.n2 : Int)]) (by simp [results, Try.results6, go_sem]) rfl ⟨rfl, HB2.out⟩

end Go.Proofs.Ytkegapaococmcaa
