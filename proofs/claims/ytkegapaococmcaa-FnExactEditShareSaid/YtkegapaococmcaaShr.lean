/- EditShare of the program. No condition of its own. -/
import Derived.Test.YtkegapaococmcaaShrV
import Derived.Test.YtkegapaococmcaaIn
import Derived.Deep.LoopGhost
import Derived.Deep.RegionHeld3
namespace Go.Proofs.Ytkegapaococmcaa
open Go Go.ChangeShapes Go.WideShapes Go.ChangeAt Go.RowKit Go.Lib
set_option linter.unusedVariables false
set_option linter.unusedSimpArgs false
set_option maxRecDepth 100000
set_option maxHeartbeats 4000000
/-- The tab of this number. -/
def mTabAt (m : MBrowser) (a : Int) : Option MTab := if 0 ≤ a ∧ a < (m.l1.length : Int) then m.l1[a.toNat]? else none
def mShG (m : MBrowser) (a : Int) : Int := match mTabAt m a with | some t => ((t.l2.filter fun e => e.f5 != 0).length : Int) | none => 0
def mShA (m : MBrowser) (a : Int) : Int := match mTabAt m a with | some t => (t.l2.length : Int) | none => 0
theorem mTabAt_no {x : DBrowser} {a : Int} (h : inR a 0 ((x.l1.length : Int) - 1) = false) : mTabAt x.dat a = none := by
  unfold mTabAt
  have hl : x.dat.l1.length = x.l1.length := by simp [DBrowser.dat]
  rw [hl, if_neg (fun q => by rw [inR_true.2 ⟨q.1, by omega⟩] at h; cases h)]
theorem mTabAt_yes {x : DBrowser} {a : Int} (h : inR a 0 ((x.l1.length : Int) - 1) = true) : ∃ (k : Nat) (t : DTab), a = (k : Int) ∧ k < x.l1.length ∧ x.l1[k]? = some t ∧ mTabAt x.dat a = some t.dat := by
  have h2 := inR_true.1 h
  have hl : x.dat.l1.length = x.l1.length := by simp [DBrowser.dat]
  obtain ⟨k, rfl⟩ : ∃ k : Nat, a = (k : Int) := ⟨a.toNat, by omega⟩
  have hk : k < x.l1.length := by omega
  refine ⟨k, _, rfl, hk, List.getElem?_eq_getElem hk, ?_⟩
  unfold mTabAt
  rw [hl, if_pos ⟨by omega, by omega⟩]
  simp only [Int.toNat_natCast, DBrowser.dat, List.getElem?_map, List.getElem?_eq_getElem hk]; rfl
set_option maxHeartbeats 8000000 in
theorem impl_hasTab (x : DBrowser) (m : MBrowser) (lo hi : Nat) (a : Int) (w : World) (hd : x.dat = m) (hz : m.sz ≤ 1048576) (hok : m.ok) (hr : x.rd w lo hi) :
    Calls Try.prog 29 #[.agg #[.int .i64 x.p0, .slice x.A1 x.n1 x.c1, .slice x.A2 x.n2 x.c2, .slice x.A3 x.n3 x.c3, .slice x.A4 x.n4 x.c4, .slice x.A5 x.n5 x.c5, .slice x.A6 x.n6 x.c6, .int .i64 x.p7], .int .i64 a] w (Says (.bool (inR a 0 ((m.l1.length : Int) - 1))) w) := by
  subst hd
  have hzs := hz
  rw [hr.sz] at hz
  have hz' : x.n1 + x.n2 + x.n3 + x.n4 + x.n5 + x.n6 ≤ 1048576 := by omega
  have hl : (x.dat.l1.length : Int) = x.n1 := by have := hr.1.len; simp [DBrowser.dat]; omega
  rw [hl]
  have C0 := Lib.hid (fun W => says_of_same (impl_in a 0 ((x.n1 : Int) - 1) W))
  generalize inR a 0 ((x.n1 : Int) - 1) = r at C0 ⊢
  have hn1 : x.n1 ≤ 1048576 := by omega
  clear hr hz hzs hok hl
  go_enter Try.func29, Try.ntmps29
  go_wp2_with fail
  refine (C0.out _).mono ?_
  rintro e w1 ⟨rfl, hb1⟩
  have HB1 := Lib.hid (below_trans ((Below.refl w.heap.size w).alloc (Nat.le_refl _) _) hb1 (by simp))
  clear hb1
  go_wp2_with fail
  go_ret
  exact ⟨rfl, HB1.out⟩
set_option maxHeartbeats 4000000 in
theorem impl_guest (z : Int) (w : World) : Calls Try.prog 30 #[.int .i64 z] w (Says (.bool (z != 0)) w) := by
  go_enter Try.func30, Try.ntmps30
  go_wp2_with fail
  go_ret
  exact ⟨rfl, Below.refl _ _⟩
set_option maxHeartbeats 4000000 in
theorem impl_anyone4 (z : Int) (w : World) : Calls Try.prog 33 #[.int .i64 z] w (Says (.bool true) w) := by
  go_enter Try.func33, Try.ntmps33
  go_wp2_with fail
  go_ret
  exact ⟨rfl, Below.refl _ _⟩
/-- A browser of one tab alone. -/
def oneB (A : Option Addr) (c : Nat) (t : DTab) : DBrowser := ⟨0, A, 1, c, [t], none, 0, 0, [], none, 0, 0, [], none, 0, 0, [], none, 0, 0, [], none, 0, 0, [], 0⟩
theorem oneB_rd {w : World} {lo hi b off c k : Nat} {t : DTab} (hlo : lo ≤ b) (hhi : b < hi) (hc : ∀ (j : Nat) (u : Value), t.cells[j]? = some u → w.cell? ⟨b, off + k * 6 + j, none⟩ = some u) (ht : t.rd w lo hi) : (oneB (some ⟨b, off + k * 6, none⟩) c t).rd w lo hi := by
  refine ⟨⟨by simp [oneB], ⟨by rw [flat_len DTab.len]; rfl, fun _ => ⟨b, off + k * 6, rfl, hlo, hhi, fun j u hu => hc j u (by simpa [oneB] using hu)⟩⟩, fun y hy => by simp [oneB] at hy; subst hy; exact ht⟩, ⟨by simp [oneB], Rd.empty, fun y hy => by simp [oneB] at hy⟩, ⟨by simp [oneB], Rd.empty⟩, ⟨by simp [oneB], Rd.empty⟩, ⟨by simp [oneB], Rd.empty⟩, ⟨by simp [oneB], Rd.empty⟩⟩
theorem oneB_sz (A : Option Addr) (c : Nat) (t : DTab) : (oneB A c t).dat.sz = 1 + t.dat.sz := by
  simp [MBrowser.sz, DBrowser.dat, oneB, MTab.szs, MPackage.szs]
theorem oneB_ok {A : Option Addr} {c : Nat} {t : DTab} (h : t.dat.ok) : (oneB A c t).dat.ok := by
  refine ⟨(by show (Lit.int .i64 0).wf = true; decide), fun y hy => ?_, fun y hy => ?_, ?_, ?_, ?_, ?_, (by show (Lit.int .i64 0).wf = true; decide)⟩
  · simp [oneB, DBrowser.dat] at hy; subst hy; exact h
  · simp [oneB, DBrowser.dat] at hy
  all_goals exact fun y hy => by simp [oneB, DBrowser.dat] at hy
set_option maxHeartbeats 8000000 in
theorem impl_EditShareC (x : DBrowser) (m : MBrowser) (lo hi : Nat) (a : Int) (w : World) (hd : x.dat = m) (hz : m.sz ≤ 1048576) (hok : m.ok) (hr : x.rd w lo hi) (hc : x.caps) :
    Calls Try.prog 8 #[.agg #[.int .i64 x.p0, .slice x.A1 x.n1 x.c1, .slice x.A2 x.n2 x.c2, .slice x.A3 x.n3 x.c3, .slice x.A4 x.n4 x.c4, .slice x.A5 x.n5 x.c5, .slice x.A6 x.n6 x.c6, .int .i64 x.p7], .int .i64 a] w (Says (.tuple #[.int .i64 (mShG m a), .int .i64 (mShA m a)]) w) := by
  have CH := Lib.hid (fun W h => impl_hasTab x m lo hi a W hd hz hok h)
  subst hd
  have hl : x.dat.l1.length = x.l1.length := by simp [DBrowser.dat]
  rw [hl] at CH
  have HR := Lib.hid hr
  cases hin : inR a 0 ((x.l1.length : Int) - 1) with
  | false =>
    rw [hin] at CH
    have HN := Lib.hid (mTabAt_no hin)
    have e1 : mShG x.dat a = 0 := by unfold mShG; rw [HN.out]
    have e2 : mShA x.dat a = 0 := by unfold mShA; rw [HN.out]
    rw [e1, e2]
    clear hin hr hz hok hc hl e1 e2
    go_enter Try.func8, Try.ntmps8
    go_wp2_with fail
    refine (CH.out _ (HR.out.alloc _)).mono ?_
    rintro e w1 ⟨rfl, hb1⟩
    have HB1 := Lib.hid (below_trans ((Below.refl w.heap.size w).alloc (Nat.le_refl _) _) hb1 (by simp))
    clear hb1
    go_wp2_with fail
    exact bodyPost_ret (v := .tuple #[.int .i64 0, .int .i64 0]) (by simp [results, Try.results8, go_sem]) rfl ⟨rfl, HB1.out⟩
  | true =>
    rw [hin] at CH
    obtain ⟨k, t, rfl, hk, hkt, hat⟩ := mTabAt_yes hin
    have e1 : mShG x.dat (k : Int) = ((t.l2.filter fun e => e.f5 != 0).length : Int) := by unfold mShG; rw [hat]; rfl
    have e2 : mShA x.dat (k : Int) = (t.l2.length : Int) := by unfold mShA; rw [hat]; rfl
    rw [e1, e2]
    have hln := hr.1.len
    have hkn : k < x.n1 := by omega
    have hcap : x.n1 ≤ x.c1 := hc.2.2.2.2.2.2.1
    have hn1 : x.n1 ≤ 1048576 := by rw [hr.sz] at hz; omega
    have htz := MTab.szs_mem (x.l1.map DTab.dat) k t.dat (by rw [List.getElem?_map, hkt]; rfl)
    have htz2 : t.dat.sz ≤ 1048575 := by rw [hr.sz] at hz; omega
    have hto : t.dat.ok := hok.2.1 t.dat (List.mem_map.2 ⟨t, List.mem_of_getElem? hkt, rfl⟩)
    have HRo := Lib.hid hr.old
    have HX := Lib.hid ((hr.old).1.at_ hkt)
    obtain ⟨b, off, t2, hA, hlo, hhi, hkt2, hcc⟩ := rd_elem DTab.len (hr.old).1.2.1 hln hkn
    obtain rfl : t = t2 := Option.some.inj (hkt.symm.trans hkt2)
    have HCC := Lib.hid hcc
    have KB0 := Lib.hid (show BoxAt (w.alloc (.cells #[.int .i64 x.p0, .slice x.A1 x.n1 x.c1, .slice x.A2 x.n2 x.c2, .slice x.A3 x.n3 x.c3, .slice x.A4 x.n4 x.c4, .slice x.A5 x.n5 x.c5, .slice x.A6 x.n6 x.c6, .int .i64 x.p7] 40)) w.heap.size 40 #[.int .i64 x.p0, .slice (some ⟨b, off, none⟩) x.n1 x.c1, .slice x.A2 x.n2 x.c2, .slice x.A3 x.n3 x.c3, .slice x.A4 x.n4 x.c4, .slice x.A5 x.n5 x.c5, .slice x.A6 x.n6 x.c6, .int .i64 x.p7] by rw [← hA]; exact box_new w 40 #[.int .i64 x.p0, .slice x.A1 x.n1 x.c1, .slice x.A2 x.n2 x.c2, .slice x.A3 x.n3 x.c3, .slice x.A4 x.n4 x.c4, .slice x.A5 x.n5 x.c5, .slice x.A6 x.n6 x.c6, .int .i64 x.p7])
    replace hA := Lib.hid hA
    have hVG := fun (W : World) bF bP P h4 h5 h6 h7 h8 h9 h10 h11 => visit_Gst (oneB (some ⟨b, off + k * 6, none⟩) (x.c1 - k) t) _ 0 w.heap.size #[] (fun z => z != 0) bF bP P W rfl (by rw [oneB_sz]; omega) (oneB_ok hto) h4 h5 h6 h7 h8 h9 h10 h11
    have hVA := fun (W : World) bF bP P h4 h5 h6 h7 h8 h9 h10 h11 => visit_All (oneB (some ⟨b, off + k * 6, none⟩) (x.c1 - k) t) _ 0 w.heap.size #[] (fun _ => true) bF bP P W rfl (by rw [oneB_sz]; omega) (oneB_ok hto) h4 h5 h6 h7 h8 h9 h10 h11
    have eL : ((oneB (some ⟨b, off + k * 6, none⟩) (x.c1 - k) t).dat.l1.flatMap fun t => t.l2.map fun e => e.f5) = t.l2.map fun e => e.f5 := by simp [oneB, DBrowser.dat, DTab.dat]
    rw [eL] at hVG hVA
    have eG : (((t.l2.map fun e => e.f5).filter fun z => z != 0).length : Int) = ((t.l2.filter fun e => e.f5 != 0).length : Int) := by rw [List.filter_map, List.length_map]; rfl
    have eA : (((t.l2.map fun e => e.f5).filter fun _ => true).length : Int) = (t.l2.length : Int) := by rw [List.filter_eq_self.2 (fun _ _ => rfl), List.length_map]
    rw [eG] at hVG
    rw [eA] at hVA
    generalize ((t.l2.filter fun e => e.f5 != 0).length : Int) = ng at hVG ⊢
    generalize (t.l2.length : Int) = na at hVA ⊢
    have hRd := (fun (W : World) (hb : Below w.heap.size w W) => oneB_rd (w := W) (c := x.c1 - k) hlo hhi (fun j u hu => (World.cell?_of_block (a := ⟨b, off + k * 6 + j, none⟩) (hb.block b hhi)).trans (HCC.out j u hu)) (DTab.rd_keep HX.out fun b _ h2 _ => hb.block b h2))
    simp only [oneB] at hVG hVA hRd
    have HRd := Lib.hid hRd
    have HVG := Lib.hid hVG
    have HVA := Lib.hid hVA
    clear hin hr hz hok hc hl e1 e2 hat hkt hkt2 hcc htz htz2 hto eL eG eA hVG hVA hRd hln
    have hne : ¬ x.c1 = k := by omega
    have hle1 : k ≤ x.c1 := by omega
    go_enter Try.func8, Try.ntmps8
    go_wp2_with fail
    refine (CH.out _ (HR.out.alloc _)).mono ?_
    rintro e w1 ⟨rfl, hb1⟩
    have HB1 := Lib.hid (below_trans ((Below.refl w.heap.size w).alloc (Nat.le_refl _) _) hb1 (by simp))
    have KB1 := Lib.hid (KB0.out.new hb1)
    have k1 := KB1.out.at_ (j := 1) rfl
    have hlt := KB1.out.lt
    clear hb1
    go_wp2_with fail
    have KG : BoxAt (((w1.alloc (.cells #[.int .i64 0] 3)).alloc (.cells #[.int .i64 0] 3)).alloc (.cells #[.int .i64 0, .slice (some ⟨b, off + k * 6, none⟩) 1 (x.c1 - k), .slice none 0 0, .slice none 0 0, .slice none 0 0, .slice none 0 0, .slice none 0 0, .int .i64 0] 40)) w1.heap.size 3 #[.int .i64 0] := ((box_new w1 3 #[.int .i64 0]).alloc_ _).alloc_ _
    have KA : BoxAt (((w1.alloc (.cells #[.int .i64 0] 3)).alloc (.cells #[.int .i64 0] 3)).alloc (.cells #[.int .i64 0, .slice (some ⟨b, off + k * 6, none⟩) 1 (x.c1 - k), .slice none 0 0, .slice none 0 0, .slice none 0 0, .slice none 0 0, .slice none 0 0, .int .i64 0] 40)) (w1.heap.size + 1) 3 #[.int .i64 0] := (by simpa using box_new (w1.alloc (.cells #[.int .i64 0] 3)) 3 #[.int .i64 0] : BoxAt ((w1.alloc (.cells #[.int .i64 0] 3)).alloc (.cells #[.int .i64 0] 3)) (w1.heap.size + 1) 3 #[.int .i64 0]).alloc_ _
    have KO : BoxAt (((w1.alloc (.cells #[.int .i64 0] 3)).alloc (.cells #[.int .i64 0] 3)).alloc (.cells #[.int .i64 0, .slice (some ⟨b, off + k * 6, none⟩) 1 (x.c1 - k), .slice none 0 0, .slice none 0 0, .slice none 0 0, .slice none 0 0, .slice none 0 0, .int .i64 0] 40)) (w1.heap.size + 1 + 1) 40 #[.int .i64 0, .slice (some ⟨b, off + k * 6, none⟩) 1 (x.c1 - k), .slice none 0 0, .slice none 0 0, .slice none 0 0, .slice none 0 0, .slice none 0 0, .int .i64 0] := by simpa using box_new ((w1.alloc (.cells #[.int .i64 0] 3)).alloc (.cells #[.int .i64 0] 3)) 40 #[.int .i64 0, .slice (some ⟨b, off + k * 6, none⟩) 1 (x.c1 - k), .slice none 0 0, .slice none 0 0, .slice none 0 0, .slice none 0 0, .slice none 0 0, .int .i64 0]
    have HB4 : Below w.heap.size w (((w1.alloc (.cells #[.int .i64 0] 3)).alloc (.cells #[.int .i64 0] 3)).alloc (.cells #[.int .i64 0, .slice (some ⟨b, off + k * 6, none⟩) 1 (x.c1 - k), .slice none 0 0, .slice none 0 0, .slice none 0 0, .slice none 0 0, .slice none 0 0, .int .i64 0] 40)) := ((HB1.out.alloc HB1.out.size _).alloc (by have := HB1.out.size; simp; omega) _).alloc (by have := HB1.out.size; simp; omega) _
    have hs4 : w1.heap.size + 3 = (((w1.alloc (.cells #[.int .i64 0] 3)).alloc (.cells #[.int .i64 0] 3)).alloc (.cells #[.int .i64 0, .slice (some ⟨b, off + k * 6, none⟩) 1 (x.c1 - k), .slice none 0 0, .slice none 0 0, .slice none 0 0, .slice none 0 0, .slice none 0 0, .int .i64 0] 40)).heap.size := by simp
    generalize hw4 : (((w1.alloc (.cells #[.int .i64 0] 3)).alloc (.cells #[.int .i64 0] 3)).alloc (.cells #[.int .i64 0, .slice (some ⟨b, off + k * 6, none⟩) 1 (x.c1 - k), .slice none 0 0, .slice none 0 0, .slice none 0 0, .slice none 0 0, .slice none 0 0, .int .i64 0] 40)) = w4 at KG KA KO HB4 hs4 ⊢
    clear hw4 k1
    have hsz1 := HB1.out.size
    replace KG := Lib.hid KG.drw
    replace KA := Lib.hid KA.drw
    replace KO := Lib.hid KO.drw
    replace HB4 := Lib.hid HB4.drew
    have hs5 : w1.heap.size + 3 = w4.drew.heap.size := hs4
    have KF := Lib.hid (show BoxAt ((w4.drew.alloc (.cells #[.pointer (some ⟨w1.heap.size, 0, none⟩)] 77)).alloc (.cells #[.func (.func 30) #[] #[]] 73)) (w4.drew.heap.size + 1) 73 #[.func (.func 30) #[] #[]] by simpa using box_new (w4.drew.alloc (.cells #[.pointer (some ⟨w1.heap.size, 0, none⟩)] 77)) 73 #[.func (.func 30) #[] #[]])
    have KP := Lib.hid (show BoxAt ((w4.drew.alloc (.cells #[.pointer (some ⟨w1.heap.size, 0, none⟩)] 77)).alloc (.cells #[.func (.func 30) #[] #[]] 73)) w4.drew.heap.size 77 #[.pointer (some ⟨w1.heap.size, 0, none⟩)] from (box_new _ _ _).alloc_ _)
    have HRo6 := Lib.hid (HRd.out ((w4.drew.alloc (.cells #[.pointer (some ⟨w1.heap.size, 0, none⟩)] 77)).alloc (.cells #[.func (.func 30) #[] #[]] 73)) ((HB4.out.alloc (by omega) _).alloc (by simp; omega) _))
    go_region_held3 (fun w' => w'.cell? ⟨w1.heap.size + 1 + 1, 0, none⟩ = some (.int .i64 0) ∧ w'.cell? ⟨w1.heap.size + 1 + 1, 1, none⟩ = some (.slice (some ⟨b, off + k * 6, none⟩) 1 (x.c1 - k)) ∧ w'.cell? ⟨w1.heap.size + 1 + 1, 2, none⟩ = some (.slice none 0 0) ∧ w'.cell? ⟨w1.heap.size + 1 + 1, 3, none⟩ = some (.slice none 0 0) ∧ w'.cell? ⟨w1.heap.size + 1 + 1, 4, none⟩ = some (.slice none 0 0) ∧ w'.cell? ⟨w1.heap.size + 1 + 1, 5, none⟩ = some (.slice none 0 0) ∧ w'.cell? ⟨w1.heap.size + 1 + 1, 6, none⟩ = some (.slice none 0 0) ∧ w'.cell? ⟨w1.heap.size + 1 + 1, 7, none⟩ = some (.int .i64 0))
      (exact ⟨KO.out.at_ rfl, KO.out.at_ rfl, KO.out.at_ rfl, KO.out.at_ rfl, KO.out.at_ rfl, KO.out.at_ rfl, KO.out.at_ rfl, KO.out.at_ rfl⟩)
      (first
        | (go_at_call 32; (fail_if_success (have hx := B1)); refine Calls.mono (impl_counter w1.heap.size (.func 30) #[] _) ?_; rintro e v1 ⟨rfl, hw1⟩; (have B1 := hw1); (subst hw1); (replace KO := Lib.hid ((KO.out.alloc_ (.cells #[.pointer (some ⟨w1.heap.size, 0, none⟩)] 77)).alloc_ (.cells #[.func (.func 30) #[] #[]] 73))))
        | (go_at_call 31; (fail_if_success (have hx := B2)); refine Calls.mono (HVG.out _ (w4.drew.heap.size + 1) w4.drew.heap.size w1.heap.size HRo6.out (by omega) (by omega) (by omega) KF.out KP.out ((KG.out.alloc_ _).alloc_ _) (fun W z _ => impl_guest z W)) ?_; rintro e w6 ⟨rfl, hC2, B2⟩; (replace KO := Lib.hid (KO.out.chg B2 (by omega)))))
    have KG6 := Lib.hid hC2
    have KA6 := Lib.hid (((KA.out.alloc_ (.cells #[.pointer (some ⟨w1.heap.size, 0, none⟩)] 77)).alloc_ (.cells #[.func (.func 30) #[] #[]] 73)).chg B2 (by omega))
    have HB6 := Lib.hid (show Below w.heap.size w w6 from ((HB4.out.alloc (by omega) _).alloc (by simp; omega) _).trans (B2.below (.inl (by omega)) (by simp; omega)))
    have hs6 : w1.heap.size + 3 ≤ w6.heap.size := by have := B2.size; simp at this; omega
    clear B2 hC2 KF KP HRo6 KG KA HB4 hs4 hs5
    try clear B1
    go_wp2_with fail
    replace KG6 := Lib.hid KG6.out.drw
    replace KA6 := Lib.hid KA6.out.drw
    replace KO := Lib.hid KO.out.drw
    replace HB6 := Lib.hid HB6.out.drew
    have hs7 : w1.heap.size + 3 ≤ w6.drew.heap.size := hs6
    have KF := Lib.hid (show BoxAt ((w6.drew.alloc (.cells #[.pointer (some ⟨w1.heap.size + 1, 0, none⟩)] 77)).alloc (.cells #[.func (.func 33) #[] #[]] 73)) (w6.drew.heap.size + 1) 73 #[.func (.func 33) #[] #[]] by simpa using box_new (w6.drew.alloc (.cells #[.pointer (some ⟨w1.heap.size + 1, 0, none⟩)] 77)) 73 #[.func (.func 33) #[] #[]])
    have KP := Lib.hid (show BoxAt ((w6.drew.alloc (.cells #[.pointer (some ⟨w1.heap.size + 1, 0, none⟩)] 77)).alloc (.cells #[.func (.func 33) #[] #[]] 73)) w6.drew.heap.size 77 #[.pointer (some ⟨w1.heap.size + 1, 0, none⟩)] from (box_new _ _ _).alloc_ _)
    have HRo7 := Lib.hid (HRd.out ((w6.drew.alloc (.cells #[.pointer (some ⟨w1.heap.size + 1, 0, none⟩)] 77)).alloc (.cells #[.func (.func 33) #[] #[]] 73)) ((HB6.out.alloc (by omega) _).alloc (by simp; omega) _))
    go_region_held3 (fun w' => w'.cell? ⟨w1.heap.size + 1 + 1, 0, none⟩ = some (.int .i64 0) ∧ w'.cell? ⟨w1.heap.size + 1 + 1, 1, none⟩ = some (.slice (some ⟨b, off + k * 6, none⟩) 1 (x.c1 - k)) ∧ w'.cell? ⟨w1.heap.size + 1 + 1, 2, none⟩ = some (.slice none 0 0) ∧ w'.cell? ⟨w1.heap.size + 1 + 1, 3, none⟩ = some (.slice none 0 0) ∧ w'.cell? ⟨w1.heap.size + 1 + 1, 4, none⟩ = some (.slice none 0 0) ∧ w'.cell? ⟨w1.heap.size + 1 + 1, 5, none⟩ = some (.slice none 0 0) ∧ w'.cell? ⟨w1.heap.size + 1 + 1, 6, none⟩ = some (.slice none 0 0) ∧ w'.cell? ⟨w1.heap.size + 1 + 1, 7, none⟩ = some (.int .i64 0))
      (exact ⟨KO.out.at_ rfl, KO.out.at_ rfl, KO.out.at_ rfl, KO.out.at_ rfl, KO.out.at_ rfl, KO.out.at_ rfl, KO.out.at_ rfl, KO.out.at_ rfl⟩)
      (first
        | (go_at_call 32; (fail_if_success (have hx := B1)); refine Calls.mono (impl_counter (w1.heap.size + 1) (.func 33) #[] _) ?_; rintro e v1 ⟨rfl, hw1⟩; (have B1 := hw1); (subst hw1); (replace KO := Lib.hid ((KO.out.alloc_ (.cells #[.pointer (some ⟨w1.heap.size + 1, 0, none⟩)] 77)).alloc_ (.cells #[.func (.func 33) #[] #[]] 73))))
        | (go_at_call 31; (fail_if_success (have hx := B2)); refine Calls.mono (HVA.out _ (w6.drew.heap.size + 1) w6.drew.heap.size (w1.heap.size + 1) HRo7.out (by omega) (by omega) (by omega) KF.out KP.out ((KA6.out.alloc_ _).alloc_ _) (fun W z _ => impl_anyone4 z W)) ?_; rintro e w8 ⟨rfl, hC2, B2⟩; (replace KO := Lib.hid (KO.out.chg B2 (by omega)))))
    have KA8 := Lib.hid hC2
    have KG8 := Lib.hid (((KG6.out.alloc_ (.cells #[.pointer (some ⟨w1.heap.size + 1, 0, none⟩)] 77)).alloc_ (.cells #[.func (.func 33) #[] #[]] 73)).chg B2 (by omega))
    have HB8 := Lib.hid (show Below w.heap.size w w8 from ((HB6.out.alloc (by omega) _).alloc (by simp; omega) _).trans (B2.below (.inl (by omega)) (by simp; omega)))
    clear B2 hC2 KF KP HRo7 KG6 KA6 HB6 KO
    try clear B1
    have q0 := KG8.out.at_ (j := 0) rfl
    have q1 := KA8.out.at_ (j := 0) rfl
    go_wp2_with fail
    go_quiet (fail)
    go_wp2_with fail
    exact bodyPost_ret (v := .tuple #[.int .i64 ng, .int .i64 na]) (by simp [results, Try.results8, go_sem]) rfl ⟨rfl, below_dN HB8.out _⟩

end Go.Proofs.Ytkegapaococmcaa
