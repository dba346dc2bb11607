/- holders of edits. No condition of its own. -/
import Derived.Test.YtkegapaococmcaaDBrowser
import Derived.Test.YtkegapaococmcaaHoE
import Derived.Test.YtkegapaococmcaaFun
import Derived.Test.YtkegapaococmcaaGB
import Derived.Test.YtkegapaococmcaaSlI
import Derived.Test.YtkegapaococmcaaApp
import Derived.Deep.LoopGhost
namespace Go.Proofs.Ytkegapaococmcaa
open Go Go.ChangeShapes Go.WideShapes Go.ChangeAt Go.RowKit Go.Lib
set_option linter.unusedVariables false
set_option linter.unusedSimpArgs false
set_option maxRecDepth 100000
set_option maxHeartbeats 4000000
theorem info_intH : (Try.prog.info? 3).map (fun i => (i.zero, i.size, i.bytes)) = some (some (.int .i64 0), 1, 8) := by kernel_rfl
theorem one_i64s (l : List Int) : ∀ u ∈ i64s l, u.oneCell' = true := by
  intro u hu
  unfold i64s at hu
  obtain ⟨z, _, rfl⟩ := List.mem_map.1 hu
  rfl
/-- The holders of a kind, as data. -/
def mHold (m : MBrowser) : Nat → List Int
  | 0 => m.l2.map fun x => x.p0
  | 1 => m.l3.map fun x => x.f0
  | 2 => m.l5.map fun x => x.f0
  | 3 => m.l6.map fun x => x.f0
  | 4 => m.l1.flatMap fun t => t.l2.map fun e => e.f5
  | _ => []
theorem authm_len : ∀ l : List MTab, (l.flatMap fun t => t.l2.map fun e => e.f5).length ≤ MTab.szs l
  | [] => by simp
  | t :: l => by
    have h := authm_len l
    simp only [List.flatMap_cons, List.length_append, List.length_map, MTab.szs, List.map_cons, List.sum_cons, MTab.sz] at h ⊢
    omega
theorem mHold_len (m : MBrowser) (k : Nat) : (mHold m k).length ≤ m.sz := by
  have h := authm_len m.l1
  unfold mHold MBrowser.sz
  split <;> first | (simp only [List.length_map]; omega) | (simp only [List.length_nil]; omega) | omega
set_option maxHeartbeats 8000000 in
def auth (l : List DTab) : List Int := l.flatMap fun t => t.l2.map fun e => e.f5
theorem auth_len : ∀ l : List DTab, (auth l).length ≤ MTab.szs (l.map DTab.dat)
  | [] => by simp [auth]
  | t :: l => by
    have h := auth_len l
    simp only [auth, List.flatMap_cons, List.length_append, List.length_map, MTab.szs, List.map_cons, List.sum_cons, MTab.sz, DTab.dat] at h ⊢
    omega
theorem auth_take (l : List DTab) (k : Nat) : (auth (l.take k)).length ≤ MTab.szs (l.map DTab.dat) := by
  have h := auth_len (l.take k)
  rw [List.map_take] at h
  exact Nat.le_trans h (MTab.szs_le _ _)
theorem auth_one {l : List DTab} {k : Nat} {t : DTab} (h : l[k]? = some t) : auth (l.take (k + 1)) = auth (l.take k) ++ t.l2.map fun e => e.f5 := by
  unfold auth
  rw [List.take_add_one, h, Option.toList_some, List.flatMap_append]
  simp
theorem auth_eq (x : DBrowser) : (x.dat.l1.flatMap fun t => t.l2.map fun e => e.f5) = auth x.l1 := by
  simp only [DBrowser.dat, auth, List.flatMap_map]; rfl
set_option maxHeartbeats 8000000 in
theorem holders_4 (x : DBrowser) (m : MBrowser) (lo hi : Nat) (w : World) (hd : x.dat = m) (hz : m.sz ≤ 1048576) (hok : m.ok) (hr : x.rd w lo hi) :
    Calls Try.prog 54 #[.agg #[.int .i64 x.p0, .slice x.A1 x.n1 x.c1, .slice x.A2 x.n2 x.c2, .slice x.A3 x.n3 x.c3, .slice x.A4 x.n4 x.c4, .slice x.A5 x.n5 x.c5, .slice x.A6 x.n6 x.c6, .int .i64 x.p7], .int .i64 4] w (Makes 3 1 (m.l1.flatMap fun t => t.l2.map fun e => e.f5).length (i64s (m.l1.flatMap fun t => t.l2.map fun e => e.f5)) w) := by
  subst hd
  have hzs := hz
  rw [hr.sz] at hz
  have hz' : x.n1 + x.n2 + x.n3 + x.n4 + x.n5 + x.n6 ≤ 1048576 := by omega
  rw [auth_eq]
  have HL := Lib.hid hr.1.len
  have HR := Lib.hid hr.1
  have HA := Lib.hid (fun k => Nat.le_trans (auth_take x.l1 k) (show MTab.szs (x.l1.map DTab.dat) ≤ 1048576 by omega))
  have HTZ := Lib.hid (fun (k : Nat) (t : DTab) (h : x.l1[k]? = some t) => Nat.le_trans (MTab.szs_mem (x.l1.map DTab.dat) k t.dat (by rw [List.getElem?_map, h]; rfl)) (show MTab.szs (x.l1.map DTab.dat) ≤ 1048576 by omega))
  have hn1 : x.n1 ≤ 1048576 := by omega
  have HON := Lib.hid (fun k (t : DTab) (h : x.l1[k]? = some t) => auth_one h)
  clear hr hz hzs hok
  generalize x.A1 = A1v at HR ⊢
  go_enter Try.func54, Try.ntmps54
  go_wp2_with fail
  go_loopg [5, 33] x.n1 (fun gg v i wr => ∃ k : Nat, k ≤ x.n1 ∧ x.n1 - k ≤ gg ∧ i = .int .i64 k ∧ Hid (wr.ownsRow (w.heap.size + 1) 3 1 v (auth (x.l1.take k)).length (i64s (auth (x.l1.take k)))) ∧ Hid (Below w.heap.size w wr) ∧ Hid (w.heap.size + 1 ≤ wr.heap.size))
  case atStart => exact ⟨0, Nat.zero_le _, by omega, rfl, Lib.hid (by rw [← World.size_alloc w (.cells #[.int .i64 x.p0, .slice A1v x.n1 x.c1, .slice x.A2 x.n2 x.c2, .slice x.A3 x.n3 x.c3, .slice x.A4 x.n4 x.c4, .slice x.A5 x.n5 x.c5, .slice x.A6 x.n6 x.c6, .int .i64 x.p7] 40)]; exact World.ownsRow_lit (w.alloc (.cells #[.int .i64 x.p0, .slice A1v x.n1 x.c1, .slice x.A2 x.n2 x.c2, .slice x.A3 x.n3 x.c3, .slice x.A4 x.n4 x.c4, .slice x.A5 x.n5 x.c5, .slice x.A6 x.n6 x.c6, .int .i64 x.p7] 40)) #[] 0 (Nat.le_refl _) (by unfold maxLen; omega) rfl), Lib.hid (((Below.refl w.heap.size w).alloc (Nat.le_refl _) _).alloc (by simp) _), Lib.hid (by simp)⟩
  case round =>
    obtain ⟨k, hk, hg, rfl, HO, HB, HS⟩ := hrel
    by_cases hlt : k < x.n1
    · obtain ⟨b, off, t, rfl, _, _, hzz, hc⟩ := rd_elem DTab.len (HR.out.new HB.out).2.1 HL.out hlt
      have HX := Lib.hid ((HR.out.new HB.out).at_ hzz)
      have HT := Lib.hid (HTZ.out k t hzz)
      have HE := Lib.hid (HON.out k t hzz)
      have hl2 : t.l2.length = t.n2 := (DTab.rd_lens HX.out).2.1
      have hz2 : t.n2 ≤ 1048576 := by have := HT.out; rw [DTab.rd_sz HX.out] at this; omega
      have c0 : wr.cell? ⟨b, off + k * 6, none⟩ = some (.int .i64 t.s0.f0) := hc 0 _ rfl
      have c1 : wr.cell? ⟨b, off + k * 6 + 1, none⟩ = some (.int .i64 t.s0.f1) := hc 1 _ rfl
      have c2 : wr.cell? ⟨b, off + k * 6 + 2, none⟩ = some (.slice t.A1 t.n1 t.c1) := hc 2 _ rfl
      have c3 : wr.cell? ⟨b, off + k * 6 + 3, none⟩ = some (.slice t.A2 t.n2 t.c2) := hc 3 _ rfl
      have c4 : wr.cell? ⟨b, off + k * 6 + 4, none⟩ = some (.slice t.A3 t.n3 t.c3) := hc 4 _ rfl
      have c5 : wr.cell? ⟨b, off + k * 6 + 5, none⟩ = some (.int .i64 t.p4) := hc 5 _ rfl
      have HM := Lib.hid (fun W h => map_edit t.l2 t.A2 t.n2 t.c2 0 wr.heap.size W hz2 h)
      have HR2 := Lib.hid (show Rd wr 0 wr.heap.size 6 t.A2 t.n2 (cEdit t.l2) from HX.out.2.1.2.old (by decide))
      have HN := Lib.hid (HA.out k)
      have HLm : (t.l2.map fun e => e.f5).length = t.n2 := by rw [List.length_map, hl2]
      generalize (t.l2.map fun e => e.f5) = M at HM HE HLm
      generalize auth (x.l1.take k) = Au at HO HE HN
      clear hzz hc
      go_wp2_with (first | (go_at_call 87; refine Calls.mono (HM.out _ (HR2.out.alloc _)) ?_; rintro e w1 ⟨B1, d1, rfl, hf1, hb1⟩; (have HO1 := Lib.hid (own_newer (own_newer HO.out ((Below.refl _ _).alloc (Nat.le_refl _) _)) hb1)); (have HB1 := Lib.hid (below_trans (HB.out.alloc (by have := HS.out; omega) _) hb1 (Nat.le_refl _))); (have HS1 := Lib.hid (show w.heap.size + 1 ≤ w1.heap.size by have h1 := hb1.size; have h2 := HS.out; simp at h1; omega)); (have HRn := Lib.hid hf1.rd); (have HBx := Lib.hid hb1); clear hb1 hf1 c0 c1 c2 c3 c4 c5) | (at_builtin; refine wp_app rfl _ _ _ rfl (w.heap.size + 1) 3 (.int .i64 0) 1 8 Try.underlying62 info_intH rfl (by decide) _ Au.length _ rfl HO1.out _ _ B1 t.n2 d1 (i64s M) rfl HRn.out (one_i64s M) (by have := HN.out; unfold maxLen; omega) (by have := HN.out; omega) (by have := HS1.out; omega) ?_; intro v1 w2 ho2 hb2 _ _))
      have HO2 := Lib.hid (show w2.ownsRow (w.heap.size + 1) 3 1 v1 (auth (x.l1.take (k + 1))).length (i64s (auth (x.l1.take (k + 1)))) by rw [HE.out, List.length_append, HLm]; simpa [i64s] using ho2)
      have HB2 := Lib.hid (HB1.out.trans (hb2.mono (by omega)))
      have HS2 := Lib.hid (Nat.le_trans HS1.out hb2.size)
      clear ho2 hb2
      go_wp2_with fail
      go_roundg (x.n1 - (k + 1))
      case measure => omega
      case rel => exact ⟨k + 1, by omega, by omega, by go_num, HO2, HB2, HS2⟩
    · obtain rfl : k = x.n1 := by omega
      have HO2 := Lib.hid (own_base (base' := w.heap.size) (show wr.ownsRow (w.heap.size + 1) 3 1 _ (auth x.l1).length (i64s (auth x.l1)) by have := HO.out; rwa [List.take_of_length_le (by rw [HL.out]; omega)] at this) (by omega))
      clear HO
      go_wp2_with fail
      go_ret
      exact makes_of_own HO2.out HB.out

end Go.Proofs.Ytkegapaococmcaa
