/- Merged: MpQ, HoP, IxI, GB, Inst, HasT, Clicked, MayA, MayS. -/
import Derived.Test.YtjgcgipglmhgeaaGreatCore
import Derived.Maps.Own
import Derived.Maps.Views
import Derived.Maps.RangeWalk
import Derived.Test.YtjgcgipglmhgeaaGreatDPackage
import Derived.Test.YtjgcgipglmhgeaaGreatApp
import Derived.Deep.LoopGhost
import Derived.Test.YtjgcgipglmhgeaaGreatSlI
import Derived.Test.YtjgcgipglmhgeaaGreatFun
import Derived.Test.YtjgcgipglmhgeaaGreatTGrant
import Derived.Test.YtjgcgipglmhgeaaGreatDBrowser
import Derived.Test.YtjgcgipglmhgeaaGreatIn
import Derived.Test.YtjgcgipglmhgeaaGreatRTab
import Derived.Test.YtjgcgipglmhgeaaGreatMgD
import Derived.Deep.RegionHeld3
namespace Go.Proofs.YtjgcgipglmhgeaaGreat
open Go Go.ChangeShapes Go.WideShapes Go.ChangeAt Go.RowKit Go.Lib Go.Maps
set_option linter.unusedVariables false
set_option linter.unusedSimpArgs false
set_option maxRecDepth 100000

theorem keyed_str : Keyed Tryz.prog 9 := string_keyed Tryz.underlying9
def kInst : ByteArray := { data := #[105, 110, 115, 116, 97, 108, 108, 101, 100] }
def kForce : ByteArray := { data := #[105, 110, 32, 102, 111, 114, 99, 101] }
def lInst : Lit := .string kInst.data.toList
def lForce : Lit := .string kForce.data.toList
theorem lits_ne : lInst ≠ lForce := by
  unfold lInst lForce
  intro h
  injection h with h
  revert h
  decide
theorem key_inst : keyOf Tryz.prog 9 (.string kInst) = some lInst := Go.WideMaps.keyOf_string_mk Tryz.underlying9 (by decide)
theorem key_force : keyOf Tryz.prog 9 (.string kForce) = some lForce := Go.WideMaps.keyOf_string_mk Tryz.underlying9 (by decide)
theorem under_q : Tryz.prog.underlying 128 = some (.map 9 4) := by kernel_rfl
theorem make_mapQ (w : World) : (Instr.makeMap 128 none).run Tryz.prog w = .ok (.map (some w.heap.size)) (w.alloc (.map #[] 0)) := by
  simp [Instr.makeMap, run_underlying under_q]
/-- Block b is a map of at most n entries; what it says of the two names. -/
def MapQ (w : World) (b n : Nat) (o1 o2 : Option Bool) : Prop :=
  ∃ D : DataW Unit, w.ownsMap Tryz.prog 9 (plainElem Tryz.prog 4) b n D ∧ IsMap D ∧ (∀ kl, Maps.has D kl = true → (kl = lInst ∧ o1.isSome = true) ∨ (kl = lForce ∧ o2.isSome = true)) ∧
    (∀ v, o1 = some v → Maps.has D lInst = true ∧ ∀ zd, D.atKey lInst zd = .lit (.bool v)) ∧ (∀ v, o2 = some v → Maps.has D lForce = true ∧ ∀ zd, D.atKey lForce zd = .lit (.bool v))
section
variable {w w' : World} {b n : Nat} {o1 o2 : Option Bool}
theorem MapQ.lt (h : MapQ w b n o1 o2) : b < w.heap.size := by
  obtain ⟨D, h1, _⟩ := h
  exact h1.lt
theorem MapQ.keep (h : MapQ w b n o1 o2) (e : w'.heap[b]? = w.heap[b]?) : MapQ w' b n o1 o2 := by
  obtain ⟨D, ⟨es, clock, hb, hF⟩, h2⟩ := h
  exact ⟨D, ⟨es, clock, e.trans hb, hF⟩, h2⟩
theorem MapQ.new (h : MapQ w b n o1 o2) (hb : Below w.heap.size w w') : MapQ w' b n o1 o2 := h.keep (hb.block b h.lt)
theorem mapQ_made (w : World) : MapQ (w.alloc (.map #[] 0)) w.heap.size 0 none none :=
  ⟨.map [], World.ownsMap_made _ _ _ _, isMap_empty, fun kl h => (by cases h), fun v h => (by cases h), fun v h => (by cases h)⟩
theorem MapQ.put1 (h : MapQ w b n o1 o2) (hn : n < maxLen) (v : Bool) : ∃ w', (Instr.mapUpdate 128 (.map (some b)) (.string { data := #[105, 110, 115, 116, 97, 108, 108, 101, 100] }) (.bool v)).run Tryz.prog w = .ok () w' ∧ MapQ w' b (n + 1) (some v) o2 ∧ w.grownBy w' (some b) := by
  obtain ⟨D, h1, h2, h3, h4, h5⟩ := h
  obtain ⟨w', hr, ho, hg⟩ := h1.update keyed_str under_q hn key_inst (plainElem_bool Tryz.underlying4 v)
  refine ⟨w', hr, ⟨_, ho, h2.put _ _, fun kl hh => ?_, fun u hu => ?_, fun u hu => ?_⟩, hg⟩
  · by_cases e : kl = lInst
    · exact .inl ⟨e, rfl⟩
    · rw [has_put_other e] at hh
      rcases h3 kl hh with ⟨e2, _⟩ | hq
      · exact absurd e2 e
      · exact .inr hq
  · injection hu with hu
    subst hu
    exact ⟨has_put_same h2 (show WideAt.IsKeyLit lInst from trivial) _, fun zd => atKey_put_same h2 (show WideAt.IsKeyLit lInst from trivial) _ _⟩
  · obtain ⟨a, c⟩ := h5 u hu
    exact ⟨(has_put_other lits_ne.symm _).trans a, fun zd => (atKey_put_other lits_ne.symm _ _).trans (c zd)⟩
theorem MapQ.put2 (h : MapQ w b n o1 o2) (hn : n < maxLen) (v : Bool) : ∃ w', (Instr.mapUpdate 128 (.map (some b)) (.string { data := #[105, 110, 32, 102, 111, 114, 99, 101] }) (.bool v)).run Tryz.prog w = .ok () w' ∧ MapQ w' b (n + 1) o1 (some v) ∧ w.grownBy w' (some b) := by
  obtain ⟨D, h1, h2, h3, h4, h5⟩ := h
  obtain ⟨w', hr, ho, hg⟩ := h1.update keyed_str under_q hn key_force (plainElem_bool Tryz.underlying4 v)
  refine ⟨w', hr, ⟨_, ho, h2.put _ _, fun kl hh => ?_, fun u hu => ?_, fun u hu => ?_⟩, hg⟩
  · by_cases e : kl = lForce
    · exact .inr ⟨e, rfl⟩
    · rw [has_put_other e] at hh
      rcases h3 kl hh with hq | ⟨e2, _⟩
      · exact .inl hq
      · exact absurd e2 e
  · obtain ⟨a, c⟩ := h4 u hu
    exact ⟨(has_put_other lits_ne _).trans a, fun zd => (atKey_put_other lits_ne _ _).trans (c zd)⟩
  · injection hu with hu
    subst hu
    exact ⟨has_put_same h2 (show WideAt.IsKeyLit lForce from trivial) _, fun zd => atKey_put_same h2 (show WideAt.IsKeyLit lForce from trivial) _ _⟩
end
theorem inv_str (key : Value) (kl : Lit) (h : keyOf Tryz.prog 9 key = some kl) : ∃ x, key = Value.string x := by
  simp only [keyOf, Tryz.underlying9] at h
  unfold mapKey at h
  rw [Tryz.underlying9] at h
  cases key <;> simp at h
  exact ⟨_, rfl⟩
theorem inv_bool (v : Value) (y : DataW Unit × List MemPlace) (h : plainElem Tryz.prog 4 v = some y) : ∃ c, v = Value.bool c ∧ y = (.lit (.bool c), []) := by
  unfold plainElem at h
  rw [Tryz.underlying4] at h
  cases v <;> simp at h
  exact ⟨_, rfl, h.symm⟩
end Go.Proofs.YtjgcgipglmhgeaaGreat
namespace Go.Proofs.YtjgcgipglmhgeaaGreat
open Go Go.ChangeShapes Go.WideShapes Go.ChangeAt Go.RowKit Go.Lib
set_option linter.unusedVariables false
set_option linter.unusedSimpArgs false
set_option maxRecDepth 100000
set_option maxHeartbeats 4000000
set_option maxHeartbeats 4000000 in
theorem clo_package (x : DPackage) (w : World) : Calls Tryz.prog 144 #[.agg #[.int .i64 x.p0, .int .i64 x.p1, .int .i64 x.p2, .slice x.A3 x.n3 x.c3, .slice x.A4 x.n4 x.c4, .slice x.A5 x.n5 x.c5, .slice x.A6 x.n6 x.c6, .int .i64 x.p7]] w (Says (.int .i64 x.p0) w) := by
  go_enter Tryz.func144, Tryz.ntmps144
  go_wp2_with fail
  go_ret
  exact ⟨rfl, by repeat (first | exact Below.refl _ _ | (refine Below.alloc ?_ (by simp <;> omega) _))⟩
set_option maxHeartbeats 8000000 in
theorem map_package (l : List DPackage) (A : Option Addr) (n c lo hi : Nat) (w : World) (hn : n ≤ 1048576) (hr : RdPackage w lo hi A n l) :
    Calls Tryz.prog 143 #[.slice A n c, .func (.func 144) #[] #[]] w (Makes 3 1 n (i64s (l.map fun x => x.p0)) w) := by
  have HL := Lib.hid (hr.len)
  have HLm := Lib.hid (show (l.map fun x => x.p0).length = n by rw [List.length_map, HL.out])
  have hmk : ∀ W, (Instr.makeSlice 59 (.int .i64 n) (.int .i64 n)).run Tryz.prog W = .ok (.slice (some ⟨W.heap.size, 0, none⟩) n n) (W.alloc (.cells (madeCells #[.int .i64 0] n) 3)) := fun W => run_make_row' (P := Tryz.prog) 59 3 (.int .i64 0) 8 Tryz.underlying59 (by kernel_rfl) rfl .i64 .i64 n (by omega) (by omega) W
  have HR := Lib.hid hr
  obtain ⟨ts, hts⟩ : ∃ ts, (l.map fun x => x.p0) = ts := ⟨_, rfl⟩
  have HTs := Lib.hid hts
  rw [hts] at HLm ⊢
  clear hr hts
  go_enter Tryz.func143, Tryz.ntmps143
  go_wp2_with fail
  go_loopg [13] n (fun gg i wr => ∃ k : Nat, k ≤ n ∧ n - k ≤ gg ∧ i = .int .i64 k ∧ Hid (Pre wr w.heap.size 3 n (i64s ts) k) ∧ Hid (Below w.heap.size w wr))
  case atStart => exact ⟨0, Nat.zero_le _, by omega, rfl, Lib.hid (pre_start (by rw [size_madeCells])), Lib.hid ((Below.refl _ _).alloc (Nat.le_refl _) _)⟩
  case round =>
    obtain ⟨k, hk, hg, rfl, HP, HB⟩ := hrel
    have HS := Lib.hid HB.out.size
    by_cases hlt : k < n
    · obtain ⟨b, off, x, rfl, _, _, hz, hc⟩ := rd_elem DPackage.len (HR.out.new HB.out).2.1 HL.out hlt
      have c0 : wr.cell? ⟨b, off + k * 8, none⟩ = _ := hc 0 _ rfl
      have c1 := hc 1 _ rfl
      have c2 := hc 2 _ rfl
      have c3 := hc 3 _ rfl
      have c4 := hc 4 _ rfl
      have c5 := hc 5 _ rfl
      have c6 := hc 6 _ rfl
      have c7 := hc 7 _ rfl
      have HV : Hid ((i64s ts)[k]? = some (.int .i64 x.p0)) := Lib.hid (by rw [← HTs.out]; unfold i64s; rw [List.getElem?_map, List.getElem?_map, hz]; rfl)
      have C0 := Lib.hid (fun W => clo_package x W)
      clear hz hc
      go_wp2_with (go_at_call 144; refine Calls.mono (C0.out _) ?_; rintro e w1 ⟨rfl, hb1⟩; have HP1 := Lib.hid ((HP.out.new ((Below.refl _ _).alloc (Nat.le_refl _) _)).new hb1); have HB1 := Lib.hid (below_trans (HB.out.alloc HS.out _) hb1 (by simp)); obtain ⟨q0, d0⟩ := HP1.out.cell (j := k) hlt; have g0 := HP1.out.frozen k; clear hb1 c0 c1 c2 c3 c4 c5 c6 c7)
      go_roundg (n - (k + 1))
      case measure => omega
      case rel => exact ⟨k + 1, by omega, by omega, by go_num, Lib.hid (HP1.out.step HV.out), Lib.hid (HB1.out.setCell (by simp) _)⟩
    · obtain rfl : n = k := by omega
      go_wp2_with fail
      go_ret
      exact ⟨_, _, rfl, (HP.out.at_ (by omega) |> fun h => Pre.fr (size := 1) (by simpa using h) (by omega) (by have := HP.out.lt; exact this) (by unfold maxLen; omega) (by unfold i64s; rw [List.length_map, HLm.out]; omega)), HB.out⟩

end Go.Proofs.YtjgcgipglmhgeaaGreat
namespace Go.Proofs.YtjgcgipglmhgeaaGreat
open Go Go.ChangeShapes Go.WideShapes Go.ChangeAt Go.RowKit Go.Lib
set_option linter.unusedVariables false
set_option linter.unusedSimpArgs false
set_option maxRecDepth 100000
set_option maxHeartbeats 8000000 in
theorem index_Int (z : Int) (l : List Int) (A : Option Addr) (n c lo hi : Nat) (w : World) (hn : n ≤ 17592186044416) (hr : Rd w lo hi 1 A n (i64s l)) :
    Calls Tryz.prog 94 #[.slice A n c, .int .i64 z] w (Says (.int .i64 (idxP (fun x => decide (z = x)) l)) w) := by
  have HL := Lib.hid (show l.length = n by have := hr.1; simpa [i64s] using this)
  have HR := Lib.hid hr
  clear hr
  generalize hP : (fun x : Int => decide (z = x)) = P
  have HP := Lib.hid hP
  clear hP
  go_enter Tryz.func94, Tryz.ntmps94
  go_wp2_with fail
  go_loopg [5, 8] n (fun gg _ i wr => ∃ k : Nat, k ≤ n ∧ n - k ≤ gg ∧ i = .int .i64 k ∧ Hid (Below w.heap.size w wr) ∧ Hid ((l.take k).any P = false))
  case atStart => exact ⟨0, Nat.zero_le _, by omega, rfl, Lib.hid (Below.refl _ _), Lib.hid (by simp)⟩
  case round =>
    obtain ⟨k, hk, hg, rfl, HB, HF⟩ := hrel
    by_cases hlt : k < n
    · obtain ⟨b, off, x, rfl, _, _, hz, hc⟩ := rd_int (HR.out.new HB.out) hlt
      have HZ := Lib.hid hz
      have HPx := Lib.hid (show decide (z = x) = P x by rw [← HP.out])
      clear hz
      by_cases e : z = x
      · have HE := Lib.hid (idxP_hit HF.out HZ.out (by rw [← HPx.out, decide_eq_true e]))
        subst e
        go_wp2_with fail
        go_ret
        exact ⟨by rw [HE.out]; rfl, by first | exact below_dN HB.out _ | exact HB.out⟩
      · have HE := Lib.hid (any_step HF.out HZ.out (by rw [← HPx.out, decide_eq_false e]))
        go_wp2_with fail
        go_roundg (n - (k + 1))
        case measure => omega
        case rel => exact ⟨k + 1, by omega, by omega, by go_num, by first | exact HB | exact Lib.hid (below_dN HB.out _), HE⟩
    · obtain rfl : k = n := by omega
      have HE := Lib.hid (idxP_miss (by have := HF.out; rw [List.take_of_length_le (by have := HL.out; omega)] at this; exact this))
      go_wp2_with fail
      go_ret
      exact ⟨by rw [HE.out]; rfl, by first | exact below_dN HB.out _ | exact HB.out⟩
set_option maxHeartbeats 8000000 in
theorem contains_Int (z : Int) (l : List Int) (A : Option Addr) (n c lo hi : Nat) (w : World) (hn : n ≤ 17592186044416) (hr : Rd w lo hi 1 A n (i64s l)) :
    Calls Tryz.prog 100 #[.slice A n c, .int .i64 z] w (Says (.bool (l.any fun x => decide (z = x))) w) := by
  have HC := Lib.hid (fun W h => index_Int z l A n c lo hi W hn h)
  have HR := Lib.hid hr
  clear hr
  cases hq : l.any (fun x => decide (z = x)) with
  | true =>
    have hx := idxP_nonneg hq
    generalize idxP (fun x => decide (z = x)) l = r at HC hx
    clear hq
    have hd : decide (r ≥ 0) = true := by simp; omega
    go_enter Tryz.func100, Tryz.ntmps100
    go_wp2_with fail
    refine Calls.mono (HC.out _ HR.out) ?_
    rintro e w1 ⟨rfl, hb1⟩
    have HB1 := Lib.hid hb1
    clear hb1
    go_wp2_with fail
    go_ret
    exact ⟨rfl, HB1.out⟩
  | false =>
    have hx := idxP_miss hq
    rw [hx] at HC
    clear hx hq
    go_enter Tryz.func100, Tryz.ntmps100
    go_wp2_with fail
    refine Calls.mono (HC.out _ HR.out) ?_
    rintro e w1 ⟨rfl, hb1⟩
    have HB1 := Lib.hid hb1
    clear hb1
    go_wp2_with fail
    go_ret
    exact ⟨rfl, HB1.out⟩

end Go.Proofs.YtjgcgipglmhgeaaGreat
namespace Go.Proofs.YtjgcgipglmhgeaaGreat
open Go Go.ChangeShapes Go.WideShapes Go.ChangeAt Go.RowKit Go.Lib
set_option linter.unusedVariables false
set_option linter.unusedSimpArgs false
set_option maxRecDepth 100000
theorem infoGrant : (Tryz.prog.info? 108).map (fun i => (i.zero, i.size, i.bytes)) = some (some (.agg #[.int .i64 0, .int .i64 0, .int .i64 0, .int .i64 0, .int .i64 0, .int .i64 0, .bool false]), 7, 56) := by kernel_rfl
theorem onesGrant (x : TGrant) : ∀ u ∈ (#[.int .i64 x.f0, .int .i64 x.f1, .int .i64 x.f2, .int .i64 x.f3, .int .i64 x.f4, .int .i64 x.f5, .bool x.f6] : Array Value).toList, u.oneCell' = true := by
  intro u hu
  simp only [List.mem_cons, List.not_mem_nil, or_false] at hu
  rcases hu with rfl | rfl | rfl | rfl | rfl | rfl | rfl <;> rfl
end Go.Proofs.YtjgcgipglmhgeaaGreat
namespace Go.Proofs.YtjgcgipglmhgeaaGreat
open Go Go.ChangeShapes Go.WideShapes Go.ChangeAt Go.RowKit Go.Lib
set_option linter.unusedVariables false
set_option linter.unusedSimpArgs false
set_option maxRecDepth 100000
set_option maxHeartbeats 4000000
theorem one_intB (z : Int) : ∀ u ∈ (#[Value.int .i64 z] : Array Value).toList, u.oneCell' = true := by intro u hu; simp at hu; subst hu; rfl
theorem info_intB : (Tryz.prog.info? 3).map (fun i => (i.zero, i.size, i.bytes)) = some (some (.int .i64 0), 1, 8) := by kernel_rfl
def mInst (m : MBrowser) : List Int := m.l2.map fun p => p.p0
theorem mInst_len (m : MBrowser) : (mInst m).length ≤ m.sz := by unfold mInst; simp only [List.length_map, MBrowser.sz]; omega
theorem mInst_eq (x : DBrowser) : mInst x.dat = x.l2.map fun p => p.p0 := by simp only [mInst, DBrowser.dat, List.map_map]; rfl
theorem mInst_at {x : DBrowser} {k : Nat} {p : DPackage} (h : x.l2[k]? = some p) : (mInst x.dat)[k]? = some p.p0 := by rw [mInst_eq, List.getElem?_map, h]; rfl
def mPackOf (m : MBrowser) (a : Int) : Int := idxP (fun x => decide (a = x)) (mInst m)
set_option maxHeartbeats 8000000 in
theorem impl_holders0 (x : DBrowser) (m : MBrowser) (lo hi : Nat) (w : World) (hd : x.dat = m) (hz : m.sz ≤ 1048576) (hok : m.ok) (hr : x.rd w lo hi) :
    Calls Tryz.prog 121 #[.agg #[.int .i64 x.p0, .slice x.A1 x.n1 x.c1, .slice x.A2 x.n2 x.c2, .slice x.A3 x.n3 x.c3, .slice x.A4 x.n4 x.c4, .slice x.A5 x.n5 x.c5, .slice x.A6 x.n6 x.c6, .int .i64 x.p7], .int .i64 0] w (Makes 3 1 (mInst m).length (i64s (mInst m)) w) := by
  subst hd
  have hzs := hz
  rw [hr.sz] at hz
  have hz' : x.n1 + x.n2 + x.n3 + x.n4 + x.n5 + x.n6 ≤ 1048576 := by omega
  have hlen := hr.2.1.len
  have HC := Lib.hid (fun W h => map_package x.l2 x.A2 x.n2 x.c2 lo hi W (by omega) h)
  have HR := Lib.hid hr.2.1
  rw [← mInst_eq] at HC
  have HLn : (mInst x.dat).length = x.n2 := by rw [mInst_eq, List.length_map, hlen]
  rw [HLn]
  clear HLn
  generalize mInst x.dat = L at HC ⊢
  clear hr hz hzs hok hlen
  go_enter Tryz.func121, Tryz.ntmps121
  go_wp2_with fail
  refine (HC.out _ (HR.out.new ((Below.refl _ _).alloc (Nat.le_refl _) _))).mono ?_
  rintro e w1 ⟨A1, c1, rfl, hf1, hb1⟩
  have HB1 := Lib.hid (below_trans ((Below.refl _ _).alloc (Nat.le_refl _) _) hb1 (by simp))
  have HF1 := Lib.hid (hf1.mono (lo' := w.heap.size) (by simp) (Nat.le_refl _))
  clear hb1 hf1
  go_wp2_with fail
  go_ret
  exact ⟨_, _, rfl, HF1.out, HB1.out⟩
set_option maxHeartbeats 8000000 in
theorem impl_Installed (x : DBrowser) (m : MBrowser) (lo hi : Nat) (w : World) (hd : x.dat = m) (hz : m.sz ≤ 1048576) (hok : m.ok) (hr : x.rd w lo hi) :
    Calls Tryz.prog 95 #[.agg #[.int .i64 x.p0, .slice x.A1 x.n1 x.c1, .slice x.A2 x.n2 x.c2, .slice x.A3 x.n3 x.c3, .slice x.A4 x.n4 x.c4, .slice x.A5 x.n5 x.c5, .slice x.A6 x.n6 x.c6, .int .i64 x.p7]] w (Makes 3 1 (mInst m).length (i64s (mInst m)) w) := by
  have HC := Lib.hid (fun W h => impl_holders0 x m lo hi W hd hz hok h)
  have HR := Lib.hid hr
  generalize mInst m = L at HC ⊢
  clear hr hz hok hd
  go_enter Tryz.func95, Tryz.ntmps95
  go_wp2_with fail
  refine (HC.out _ (HR.out.alloc _)).mono ?_
  rintro e w1 ⟨A1, c1, rfl, hf1, hb1⟩
  have HB1 := Lib.hid (below_trans ((Below.refl _ _).alloc (Nat.le_refl _) _) hb1 (by simp))
  have HF1 := Lib.hid (hf1.mono (lo' := w.heap.size) (by simp) (Nat.le_refl _))
  clear hb1 hf1
  go_wp2_with fail
  go_ret
  exact ⟨_, _, rfl, HF1.out, HB1.out⟩
set_option maxHeartbeats 8000000 in
theorem impl_PackOf (x : DBrowser) (m : MBrowser) (lo hi : Nat) (a : Int) (w : World) (hd : x.dat = m) (hz : m.sz ≤ 1048576) (hok : m.ok) (hr : x.rd w lo hi) :
    Calls Tryz.prog 60 #[.agg #[.int .i64 x.p0, .slice x.A1 x.n1 x.c1, .slice x.A2 x.n2 x.c2, .slice x.A3 x.n3 x.c3, .slice x.A4 x.n4 x.c4, .slice x.A5 x.n5 x.c5, .slice x.A6 x.n6 x.c6, .int .i64 x.p7], .int .i64 a] w (Says (.int .i64 (mPackOf m a)) w) := by
  have hl1 := mInst_len m
  have HC := Lib.hid (fun W h => impl_Installed x m lo hi W hd hz hok h)
  have HI := Lib.hid (fun (W : World) A n c lo hi (hn : n ≤ 17592186044416) h => index_Int a (mInst m) A n c lo hi W hn h)
  have HR := Lib.hid hr
  have hlen : (mInst m).length ≤ 1048576 := by omega
  unfold mPackOf
  generalize mInst m = L at HC HI hlen ⊢
  generalize idxP (fun x => decide (a = x)) L = r at HI ⊢
  clear hr hz hok hd hl1
  go_enter Tryz.func60, Tryz.ntmps60
  go_wp2_with fail
  refine (HC.out _ (HR.out.alloc _)).mono ?_
  rintro e w1 ⟨A1, c1, rfl, hf1, hb1⟩
  have HB1 := Lib.hid (below_trans ((Below.refl _ _).alloc (Nat.le_refl _) _) hb1 (by simp))
  have HF1 := Lib.hid hf1.rd
  clear hb1 hf1
  go_wp2_with fail
  refine (HI.out _ A1 _ c1 _ _ (by omega) HF1.out).mono ?_
  rintro e w2 ⟨rfl, hb2⟩
  have HB2 := Lib.hid (below_trans HB1.out hb2 (Nat.le_refl _))
  clear hb2
  go_wp2_with fail
  go_ret
  exact ⟨rfl, HB2.out⟩
set_option maxHeartbeats 8000000 in
theorem spec_PackOf (x : DBrowser) (m : MBrowser) (lo hi : Nat) (a : Int) (w : World) (hd : x.dat = m) (hz : m.sz ≤ 1048576) (hok : m.ok) (hr : x.rd w lo hi) :
    Calls Tryz.prog 46 #[.agg #[.int .i64 x.p0, .slice x.A1 x.n1 x.c1, .slice x.A2 x.n2 x.c2, .slice x.A3 x.n3 x.c3, .slice x.A4 x.n4 x.c4, .slice x.A5 x.n5 x.c5, .slice x.A6 x.n6 x.c6, .int .i64 x.p7], .int .i64 a] w (Says (.int .i64 (mPackOf m a)) w) := by
  subst hd
  have hzs := hz
  rw [hr.sz] at hz
  have hz' : x.n1 + x.n2 + x.n3 + x.n4 + x.n5 + x.n6 ≤ 1048576 := by omega
  have HL := Lib.hid hr.2.1.len
  have HR := Lib.hid hr.2.1
  have HV := Lib.hid (fun k p (h : x.l2[k]? = some p) => mInst_at h)
  have HLn := Lib.hid (show (mInst x.dat).length = x.n2 by rw [mInst_eq, List.length_map, hr.2.1.len])
  unfold mPackOf
  generalize mInst x.dat = L at HV HLn ⊢
  generalize hP : (fun x : Int => decide (a = x)) = P
  have HP := Lib.hid hP
  have hn2 : x.n2 ≤ 1048576 := by omega
  clear hr hz hzs hok hP
  have KB0 := Lib.hid (box_new w 40 #[.int .i64 x.p0, .slice x.A1 x.n1 x.c1, .slice x.A2 x.n2 x.c2, .slice x.A3 x.n3 x.c3, .slice x.A4 x.n4 x.c4, .slice x.A5 x.n5 x.c5, .slice x.A6 x.n6 x.c6, .int .i64 x.p7])
  go_enter Tryz.func46, Tryz.ntmps46
  go_wp2_with fail
  go_loopg [5] x.n2 (fun gg i wr => ∃ k : Nat, k ≤ x.n2 ∧ x.n2 - k ≤ gg ∧ i = .int .i64 k ∧ Hid ((L.take k).any P = false) ∧ Hid (BoxAt wr w.heap.size 40 #[.int .i64 x.p0, .slice x.A1 x.n1 x.c1, .slice x.A2 x.n2 x.c2, .slice x.A3 x.n3 x.c3, .slice x.A4 x.n4 x.c4, .slice x.A5 x.n5 x.c5, .slice x.A6 x.n6 x.c6, .int .i64 x.p7]) ∧ Hid (Below w.heap.size w wr))
  case atStart => exact ⟨0, Nat.zero_le _, by omega, rfl, Lib.hid (by simp), KB0, Lib.hid ((Below.refl _ _).alloc (Nat.le_refl _) _)⟩
  case round =>
    obtain ⟨k, hk, hg, rfl, HF, KB, HB⟩ := hrel
    have k2 := KB.out.at_ (j := 2) rfl
    by_cases hlt : k < x.n2
    · obtain ⟨b, off, p, hA, _, _, hzz, hc⟩ := rd_elem DPackage.len (HR.out.new HB.out).2.1 HL.out hlt
      rw [hA] at k2
      have c0 : wr.cell? ⟨b, off + k * 8, none⟩ = some (.int .i64 p.p0) := hc 0 _ rfl
      have HVp := Lib.hid (HV.out k p hzz)
      have HPx := Lib.hid (show decide (a = p.p0) = P p.p0 by rw [← HP.out])
      clear hzz hc hA
      by_cases e : p.p0 = a
      · have HE := Lib.hid (idxP_hit HF.out HVp.out (by rw [← HPx.out, decide_eq_true e.symm]))
        have ht : (p.p0 == a) = true := by simp [e]
        have ht' : decide (p.p0 = a) = true := by simp [e]
        clear e
        go_wp2_with fail
        go_ret
        exact ⟨by rw [HE.out]; rfl, by first | exact below_dN HB.out _ | exact HB.out⟩
      · have HE := Lib.hid (any_step HF.out HVp.out (by rw [← HPx.out, decide_eq_false (fun h => e h.symm)]))
        have ht : (p.p0 == a) = false := by simp [e]
        have ht' : decide (p.p0 = a) = false := by simp [e]
        clear e
        go_wp2_with fail
        go_roundg (x.n2 - (k + 1))
        case measure => omega
        case rel => exact ⟨k + 1, by omega, by omega, by go_num, HE, by first | exact KB | exact Lib.hid KB.out, by first | exact HB | exact Lib.hid (below_dN HB.out _)⟩
    · obtain rfl : k = x.n2 := by omega
      have HE := Lib.hid (idxP_miss (by have := HF.out; rw [List.take_of_length_le (by have := HLn.out; omega)] at this; exact this))
      go_wp2_with fail
      go_ret
      exact ⟨by rw [HE.out]; rfl, by first | exact below_dN HB.out _ | exact HB.out⟩

end Go.Proofs.YtjgcgipglmhgeaaGreat
namespace Go.Proofs.YtjgcgipglmhgeaaGreat
open Go Go.ChangeShapes Go.WideShapes Go.ChangeAt Go.RowKit Go.Lib
set_option linter.unusedVariables false
set_option linter.unusedSimpArgs false
set_option maxRecDepth 100000
set_option maxHeartbeats 4000000
/-- The tab of this number. -/
def mTabAt (m : MBrowser) (a : Int) : Option MTab := if 0 ≤ a ∧ a < (m.l1.length : Int) then m.l1[a.toNat]? else none
theorem mTabAt_no {x : DBrowser} {a : Int} (h : inR a 0 ((x.l1.length : Int) - 1) = false) : mTabAt x.dat a = none := by
  unfold mTabAt
  have hl : x.dat.l1.length = x.l1.length := by simp [DBrowser.dat]
  rw [hl, if_neg (fun q => by rw [inR_true.2 ⟨q.1, by omega⟩] at h; cases h)]
theorem mTabAt_yes {x : DBrowser} {a : Int} (h : inR a 0 ((x.l1.length : Int) - 1) = true) : ∃ (k : Nat) (t : DTab), a = (k : Int) ∧ k < x.l1.length ∧ x.l1[k]? = some t ∧ mTabAt x.dat a = some t.dat := by
  have h2 := inR_true.1 h
  have hl : x.dat.l1.length = x.l1.length := by simp [DBrowser.dat]
  obtain ⟨k, rfl⟩ : ∃ k : Nat, a = (k : Int) := ⟨a.toNat, by omega⟩
  have hk : k < x.l1.length := by omega
  refine ⟨k, _, rfl, hk, List.getElem?_eq_getElem hk, ?_⟩
  unfold mTabAt
  rw [hl, if_pos ⟨by omega, by omega⟩]
  simp only [Int.toNat_natCast, DBrowser.dat, List.getElem?_map, List.getElem?_eq_getElem hk]; rfl
set_option maxHeartbeats 8000000 in
theorem impl_hasTab (x : DBrowser) (m : MBrowser) (lo hi : Nat) (a : Int) (w : World) (hd : x.dat = m) (hz : m.sz ≤ 1048576) (hok : m.ok) (hr : x.rd w lo hi) :
    Calls Tryz.prog 59 #[.agg #[.int .i64 x.p0, .slice x.A1 x.n1 x.c1, .slice x.A2 x.n2 x.c2, .slice x.A3 x.n3 x.c3, .slice x.A4 x.n4 x.c4, .slice x.A5 x.n5 x.c5, .slice x.A6 x.n6 x.c6, .int .i64 x.p7], .int .i64 a] w (Says (.bool (inR a 0 ((m.l1.length : Int) - 1))) w) := by
  subst hd
  have hzs := hz
  rw [hr.sz] at hz
  have hz' : x.n1 + x.n2 + x.n3 + x.n4 + x.n5 + x.n6 ≤ 1048576 := by omega
  have hl : (x.dat.l1.length : Int) = x.n1 := by have := hr.1.len; simp [DBrowser.dat]; omega
  rw [hl]
  have C0 := Lib.hid (fun W => says_of_same (impl_in a 0 ((x.n1 : Int) - 1) W))
  generalize inR a 0 ((x.n1 : Int) - 1) = r at C0 ⊢
  have hn1 : x.n1 ≤ 1048576 := by omega
  clear hr hz hzs hok hl
  go_enter Tryz.func59, Tryz.ntmps59
  go_wp2_with fail
  refine (C0.out _).mono ?_
  rintro e w1 ⟨rfl, hb1⟩
  have HB1 := Lib.hid (below_trans ((Below.refl w.heap.size w).alloc (Nat.le_refl _) _) hb1 (by simp))
  clear hb1
  go_wp2_with fail
  go_ret
  exact ⟨rfl, HB1.out⟩

end Go.Proofs.YtjgcgipglmhgeaaGreat
namespace Go.Proofs.YtjgcgipglmhgeaaGreat
open Go Go.ChangeShapes Go.WideShapes Go.ChangeAt Go.RowKit Go.Lib
set_option linter.unusedVariables false
set_option linter.unusedSimpArgs false
set_option maxRecDepth 100000
def mClicked (c t : Int) : Bool := inR c 0 10000 && inR t c (c + 2)
set_option maxHeartbeats 16000000 in
theorem impl_IsClicked (s0_0 : TSite) (l0_1 : List TNode) (A0_1 : Option Addr) (n0_1 c0_1 lo0_1 hi0_1 : Nat) (l0_2 : List TEdit) (A0_2 : Option Addr) (n0_2 c0_2 lo0_2 hi0_2 : Nat) (l0_3 : List Int) (A0_3 : Option Addr) (n0_3 c0_3 lo0_3 hi0_3 : Nat) (p0_4 : Int) (a1 : Int) (w : World) (h0_1 : n0_1 ≤ 1048576) (r0_1 : Rd w lo0_1 hi0_1 5 A0_1 n0_1 (cNode l0_1)) (b0_1 : Hid (cNodeOk l0_1)) (h0_2 : n0_2 ≤ 1048576) (r0_2 : Rd w lo0_2 hi0_2 6 A0_2 n0_2 (cEdit l0_2)) (b0_2 : Hid (cEditOk l0_2)) (h0_3 : n0_3 ≤ 1048576) (r0_3 : Rd w lo0_3 hi0_3 1 A0_3 n0_3 (i64s l0_3)) (b0_3 : Hid (I64s l0_3)) :
    Calls Tryz.prog 62 #[.agg #[.int .i64 s0_0.f0, .int .i64 s0_0.f1, .slice A0_1 n0_1 c0_1, .slice A0_2 n0_2 c0_2, .slice A0_3 n0_3 c0_3, .int .i64 p0_4], .int .i64 a1] w (Says (.bool (mClicked p0_4 a1)) w) := by
  have R0_1 := Lib.hid r0_1
  clear r0_1
  have R0_2 := Lib.hid r0_2
  clear r0_2
  have R0_3 := Lib.hid r0_3
  clear r0_3
  have KB0 := Lib.hid (show BoxAt (w.alloc (.cells #[.int .i64 s0_0.f0, .int .i64 s0_0.f1, .slice A0_1 n0_1 c0_1, .slice A0_2 n0_2 c0_2, .slice A0_3 n0_3 c0_3, .int .i64 p0_4] 61)) w.heap.size 61 #[.int .i64 s0_0.f0, .int .i64 s0_0.f1, .slice A0_1 n0_1 c0_1, .slice A0_2 n0_2 c0_2, .slice A0_3 n0_3 c0_3, .int .i64 p0_4] from (box_new _ _ _ : BoxAt (w.alloc (.cells #[.int .i64 s0_0.f0, .int .i64 s0_0.f1, .slice A0_1 n0_1 c0_1, .slice A0_2 n0_2 c0_2, .slice A0_3 n0_3 c0_3, .int .i64 p0_4] 61)) w.heap.size 61 #[.int .i64 s0_0.f0, .int .i64 s0_0.f1, .slice A0_1 n0_1 c0_1, .slice A0_2 n0_2 c0_2, .slice A0_3 n0_3 c0_3, .int .i64 p0_4]))
  have HB := Lib.hid (show Below w.heap.size w (w.alloc (.cells #[.int .i64 s0_0.f0, .int .i64 s0_0.f1, .slice A0_1 n0_1 c0_1, .slice A0_2 n0_2 c0_2, .slice A0_3 n0_3 c0_3, .int .i64 p0_4] 61)) from (Below.refl _ _).alloc (by first | exact Nat.le_refl _ | (simp; done) | (simp; omega)) _)
  by_cases h_0 : (inR p0_4 0 10000) = true
  · skip
    have hbd := inR_true.1 h_0
    obtain ⟨hbd0, hbd1⟩ := hbd
    by_cases h_1 : (inR a1 p0_4 (p0_4 + 2)) = true
    · skip
      have HE := Lib.hid (show mClicked p0_4 a1 = true by first | (unfold mClicked; simp only [h_0, h_1, Bool.not_true, Bool.not_false, Bool.true_and, Bool.false_and, Bool.and_true, Bool.and_false, Bool.true_or, Bool.false_or, Bool.or_true, Bool.or_false]) | simp [mClicked, h_0, h_1])
      have D0 := Lib.hid (show (inR p0_4 0 10000) = true from h_0)
      have D1 := Lib.hid (show (inR a1 p0_4 (p0_4 + 2)) = true from h_1)
      clear h_0 h_1
      go_enter Tryz.func62, Tryz.ntmps62
      go_wp2_with fail
      refine Calls.mono (impl_in _ _ _ _) ?_
      rw [D0.out]
      rintro e w1 ⟨rfl, rfl⟩
      go_wp2_with fail
      refine Calls.mono (impl_in _ _ _ _) ?_
      rw [D1.out]
      rintro e w1 ⟨rfl, rfl⟩
      go_wp2_with fail
      go_ret
      exact ⟨by rw [HE.out]; rfl, HB.out⟩
    · have h_1 : (inR a1 p0_4 (p0_4 + 2)) = false := by simpa using h_1
      have HE := Lib.hid (show mClicked p0_4 a1 = false by first | (unfold mClicked; simp only [h_0, h_1, Bool.not_true, Bool.not_false, Bool.true_and, Bool.false_and, Bool.and_true, Bool.and_false, Bool.true_or, Bool.false_or, Bool.or_true, Bool.or_false]) | simp [mClicked, h_0, h_1])
      have D0 := Lib.hid (show (inR p0_4 0 10000) = true from h_0)
      have D1 := Lib.hid (show (inR a1 p0_4 (p0_4 + 2)) = false from h_1)
      clear h_0 h_1
      go_enter Tryz.func62, Tryz.ntmps62
      go_wp2_with fail
      refine Calls.mono (impl_in _ _ _ _) ?_
      rw [D0.out]
      rintro e w1 ⟨rfl, rfl⟩
      go_wp2_with fail
      refine Calls.mono (impl_in _ _ _ _) ?_
      rw [D1.out]
      rintro e w1 ⟨rfl, rfl⟩
      go_wp2_with fail
      go_ret
      exact ⟨by rw [HE.out]; rfl, HB.out⟩
  · have h_0 : (inR p0_4 0 10000) = false := by simpa using h_0
    have HE := Lib.hid (show mClicked p0_4 a1 = false by first | (unfold mClicked; simp only [h_0, Bool.not_true, Bool.not_false, Bool.true_and, Bool.false_and, Bool.and_true, Bool.and_false, Bool.true_or, Bool.false_or, Bool.or_true, Bool.or_false]) | simp [mClicked, h_0])
    have D0 := Lib.hid (show (inR p0_4 0 10000) = false from h_0)
    clear h_0
    go_enter Tryz.func62, Tryz.ntmps62
    go_wp2_with fail
    refine Calls.mono (impl_in _ _ _ _) ?_
    rw [D0.out]
    rintro e w1 ⟨rfl, rfl⟩
    go_wp2_with fail
    go_ret
    exact ⟨by rw [HE.out]; rfl, HB.out⟩

set_option maxHeartbeats 16000000 in
theorem spec_IsClicked (s0_0 : TSite) (l0_1 : List TNode) (A0_1 : Option Addr) (n0_1 c0_1 lo0_1 hi0_1 : Nat) (l0_2 : List TEdit) (A0_2 : Option Addr) (n0_2 c0_2 lo0_2 hi0_2 : Nat) (l0_3 : List Int) (A0_3 : Option Addr) (n0_3 c0_3 lo0_3 hi0_3 : Nat) (p0_4 : Int) (a1 : Int) (w : World) (h0_1 : n0_1 ≤ 1048576) (r0_1 : Rd w lo0_1 hi0_1 5 A0_1 n0_1 (cNode l0_1)) (b0_1 : Hid (cNodeOk l0_1)) (h0_2 : n0_2 ≤ 1048576) (r0_2 : Rd w lo0_2 hi0_2 6 A0_2 n0_2 (cEdit l0_2)) (b0_2 : Hid (cEditOk l0_2)) (h0_3 : n0_3 ≤ 1048576) (r0_3 : Rd w lo0_3 hi0_3 1 A0_3 n0_3 (i64s l0_3)) (b0_3 : Hid (I64s l0_3)) :
    Calls Tryz.prog 49 #[.agg #[.int .i64 s0_0.f0, .int .i64 s0_0.f1, .slice A0_1 n0_1 c0_1, .slice A0_2 n0_2 c0_2, .slice A0_3 n0_3 c0_3, .int .i64 p0_4], .int .i64 a1] w (Says (.bool (mClicked p0_4 a1)) w) := by
  have R0_1 := Lib.hid r0_1
  clear r0_1
  have R0_2 := Lib.hid r0_2
  clear r0_2
  have R0_3 := Lib.hid r0_3
  clear r0_3
  have KB0 := Lib.hid (show BoxAt (w.alloc (.cells #[.int .i64 s0_0.f0, .int .i64 s0_0.f1, .slice A0_1 n0_1 c0_1, .slice A0_2 n0_2 c0_2, .slice A0_3 n0_3 c0_3, .int .i64 p0_4] 61)) w.heap.size 61 #[.int .i64 s0_0.f0, .int .i64 s0_0.f1, .slice A0_1 n0_1 c0_1, .slice A0_2 n0_2 c0_2, .slice A0_3 n0_3 c0_3, .int .i64 p0_4] from (box_new _ _ _ : BoxAt (w.alloc (.cells #[.int .i64 s0_0.f0, .int .i64 s0_0.f1, .slice A0_1 n0_1 c0_1, .slice A0_2 n0_2 c0_2, .slice A0_3 n0_3 c0_3, .int .i64 p0_4] 61)) w.heap.size 61 #[.int .i64 s0_0.f0, .int .i64 s0_0.f1, .slice A0_1 n0_1 c0_1, .slice A0_2 n0_2 c0_2, .slice A0_3 n0_3 c0_3, .int .i64 p0_4]))
  have HB := Lib.hid (show Below w.heap.size w (w.alloc (.cells #[.int .i64 s0_0.f0, .int .i64 s0_0.f1, .slice A0_1 n0_1 c0_1, .slice A0_2 n0_2 c0_2, .slice A0_3 n0_3 c0_3, .int .i64 p0_4] 61)) from (Below.refl _ _).alloc (by first | exact Nat.le_refl _ | (simp; done) | (simp; omega)) _)
  by_cases h_0 : (inR p0_4 0 10000) = true
  · skip
    have hbd := inR_true.1 h_0
    obtain ⟨hbd0, hbd1⟩ := hbd
    by_cases h_1 : (inR a1 p0_4 (p0_4 + 2)) = true
    · skip
      have HE := Lib.hid (show mClicked p0_4 a1 = true by first | (unfold mClicked; simp only [h_0, h_1, Bool.not_true, Bool.not_false, Bool.true_and, Bool.false_and, Bool.and_true, Bool.and_false, Bool.true_or, Bool.false_or, Bool.or_true, Bool.or_false]) | simp [mClicked, h_0, h_1])
      have D0 := Lib.hid (show (inR p0_4 0 10000) = true from h_0)
      have D1 := Lib.hid (show (inR a1 p0_4 (p0_4 + 2)) = true from h_1)
      clear h_0 h_1
      go_enter Tryz.func49, Tryz.ntmps49
      go_wp2_with fail
      refine Calls.mono (spec_in _ _ _ _) ?_
      rw [D0.out]
      rintro e w1 ⟨rfl, rfl⟩
      go_wp2_with fail
      refine Calls.mono (spec_in _ _ _ _) ?_
      rw [D1.out]
      rintro e w1 ⟨rfl, rfl⟩
      go_wp2_with fail
      go_ret
      exact ⟨by rw [HE.out]; rfl, HB.out⟩
    · have h_1 : (inR a1 p0_4 (p0_4 + 2)) = false := by simpa using h_1
      have HE := Lib.hid (show mClicked p0_4 a1 = false by first | (unfold mClicked; simp only [h_0, h_1, Bool.not_true, Bool.not_false, Bool.true_and, Bool.false_and, Bool.and_true, Bool.and_false, Bool.true_or, Bool.false_or, Bool.or_true, Bool.or_false]) | simp [mClicked, h_0, h_1])
      have D0 := Lib.hid (show (inR p0_4 0 10000) = true from h_0)
      have D1 := Lib.hid (show (inR a1 p0_4 (p0_4 + 2)) = false from h_1)
      clear h_0 h_1
      go_enter Tryz.func49, Tryz.ntmps49
      go_wp2_with fail
      refine Calls.mono (spec_in _ _ _ _) ?_
      rw [D0.out]
      rintro e w1 ⟨rfl, rfl⟩
      go_wp2_with fail
      refine Calls.mono (spec_in _ _ _ _) ?_
      rw [D1.out]
      rintro e w1 ⟨rfl, rfl⟩
      go_wp2_with fail
      go_ret
      exact ⟨by rw [HE.out]; rfl, HB.out⟩
  · have h_0 : (inR p0_4 0 10000) = false := by simpa using h_0
    have HE := Lib.hid (show mClicked p0_4 a1 = false by first | (unfold mClicked; simp only [h_0, Bool.not_true, Bool.not_false, Bool.true_and, Bool.false_and, Bool.and_true, Bool.and_false, Bool.true_or, Bool.false_or, Bool.or_true, Bool.or_false]) | simp [mClicked, h_0])
    have D0 := Lib.hid (show (inR p0_4 0 10000) = false from h_0)
    clear h_0
    go_enter Tryz.func49, Tryz.ntmps49
    go_wp2_with fail
    refine Calls.mono (spec_in _ _ _ _) ?_
    rw [D0.out]
    rintro e w1 ⟨rfl, rfl⟩
    go_wp2_with fail
    go_ret
    exact ⟨by rw [HE.out]; rfl, HB.out⟩

end Go.Proofs.YtjgcgipglmhgeaaGreat
namespace Go.Proofs.YtjgcgipglmhgeaaGreat
open Go Go.Maps Go.ChangeShapes Go.WideShapes Go.ChangeAt Go.RowKit Go.Lib
set_option linter.unusedVariables false
set_option linter.unusedSimpArgs false
set_option maxRecDepth 100000
set_option maxHeartbeats 4000000
theorem may_elem {c : Bool} {y : DataW Unit × List MemPlace} (h : plainElem Tryz.prog 4 (.bool c) = some y) : y = (.lit (.bool c), []) := by
  obtain ⟨c', hc', hy⟩ := inv_bool _ _ h
  injection hc' with hc'
  rw [hc']; exact hy
theorem may_left {D : DataW Unit} {left : Lit → Bool} {kl : Lit} (h : ∀ z, left z = true → Maps.has D z = true) : ∀ z, (left z && !z.sameKey kl) = true → Maps.has D z = true := fun z hz => by rw [Bool.and_eq_true] at hz; exact h z hz.1
theorem may_all {D : DataW Unit} {b1 b2 : Bool} {left : Lit → Bool} (h4 : Maps.has D lInst = true ∧ ∀ zd, D.atKey lInst zd = .lit (.bool b1)) (h5 : Maps.has D lForce = true ∧ ∀ zd, D.atKey lForce zd = .lit (.bool b2))
    (hv : ∀ kl, Maps.has D kl = true → left kl = false → ∀ zd, D.atKey kl zd = .lit (.bool true)) (hl : ∀ kl, left kl = false) : (b1 && b2) = true := by
  have e1 := (h4.2 .nil).symm.trans (hv _ h4.1 (hl _) .nil)
  have e2 := (h5.2 .nil).symm.trans (hv _ h5.1 (hl _) .nil)
  injection e1 with e1
  injection e1 with e1
  injection e2 with e2
  injection e2 with e2
  rw [e1, e2]; rfl
theorem may_none {D : DataW Unit} {b1 b2 : Bool} {kl : Lit} (h3 : ∀ kl, Maps.has D kl = true → (kl = lInst ∧ (some b1).isSome = true) ∨ (kl = lForce ∧ (some b2).isSome = true)) (h4 : Maps.has D lInst = true ∧ ∀ zd, D.atKey lInst zd = .lit (.bool b1)) (h5 : Maps.has D lForce = true ∧ ∀ zd, D.atKey lForce zd = .lit (.bool b2))
    (hk : Maps.has D kl = true) (hat : ∀ zd, D.atKey kl zd = (DataW.lit (.bool false), ([] : List MemPlace)).1) : (b1 && b2) = false := by
  rcases h3 kl hk with ⟨rfl, _⟩ | ⟨rfl, _⟩
  · have e1 := (h4.2 .nil).symm.trans (hat .nil)
    injection e1 with e1
    injection e1 with e1
    rw [e1]; rfl
  · have e1 := (h5.2 .nil).symm.trans (hat .nil)
    injection e1 with e1
    injection e1 with e1
    rw [e1, Bool.and_false]
theorem may_next {D : DataW Unit} {kl : Lit} {left : Lit → Bool} (hv : ∀ kl, Maps.has D kl = true → left kl = false → ∀ zd, D.atKey kl zd = .lit (.bool true)) (hat : ∀ zd, D.atKey kl zd = (DataW.lit (.bool true), ([] : List MemPlace)).1) :
    ∀ z, Maps.has D z = true → (left z && !z.sameKey kl) = false → ∀ zd, D.atKey z zd = .lit (.bool true) := by
  intro z hz hl zd
  cases hlz : left z with
  | false => exact hv z hz hlz zd
  | true =>
    rw [hlz] at hl
    simp at hl
    rw [WideAt.sameKey_eq hl]
    exact hat zd
/-- What an extension may do at a tab now. -/
def mMayA (m : MBrowser) (ext a kd : Int) : Bool := match mTabAt m a with
  | none => false
  | some t => decide (0 ≤ mPackOf m ext) && (mAllowed m.l3 ext t.s0 kd m.p7 (mClicked t.p4 m.p7) && !mDenied m.l4 ext t.s0 kd)
set_option maxHeartbeats 16000000 in
theorem impl_MayActC (x : DBrowser) (m : MBrowser) (lo hi : Nat) (ext : Int) (a : Int) (kd : Int) (w : World) (hd : x.dat = m) (hz : m.sz ≤ 1048576) (hok : m.ok) (hr : x.rd w lo hi) (hc : x.caps) :
    Calls Tryz.prog 28 #[.agg #[.int .i64 x.p0, .slice x.A1 x.n1 x.c1, .slice x.A2 x.n2 x.c2, .slice x.A3 x.n3 x.c3, .slice x.A4 x.n4 x.c4, .slice x.A5 x.n5 x.c5, .slice x.A6 x.n6 x.c6, .int .i64 x.p7], .int .i64 ext, .int .i64 a, .int .i64 kd] w (Says (.bool (mMayA m ext a kd)) w) := by
  have CH := Lib.hid (fun W h => impl_hasTab x m lo hi a W hd hz hok h)
  have CP := Lib.hid (fun W (hW : Below w.heap.size w W) => impl_PackOf x m lo hi ext W hd hz hok (hr.new hW))
  subst hd
  have hl : x.dat.l1.length = x.l1.length := by simp [DBrowser.dat]
  rw [hl] at CH
  have HR := Lib.hid hr
  cases hin : inR a 0 ((x.l1.length : Int) - 1) with
  | false =>
    rw [hin] at CH
    have e1 : mMayA x.dat ext a kd = false := by unfold mMayA; rw [mTabAt_no hin]
    rw [e1]
    clear hin hr hz hok hl e1
    go_enter Tryz.func28, Tryz.ntmps28
    go_wp2_with fail
    refine (CH.out _ (HR.out.alloc _)).mono ?_
    rintro e w1 ⟨rfl, hb1⟩
    have HB1 := Lib.hid (below_trans ((Below.refl w.heap.size w).alloc (Nat.le_refl _) _) hb1 (by simp))
    clear hb1
    go_wp2_with fail
    go_ret
    exact ⟨rfl, HB1.out⟩
  | true =>
    rw [hin] at CH
    obtain ⟨k, t, rfl, hk, hkt, hat⟩ := mTabAt_yes hin
    have e1 : mMayA x.dat ext (k : Int) kd = (decide (0 ≤ mPackOf x.dat ext) && (mAllowed x.l3 ext t.s0 kd x.p7 (mClicked t.p4 x.p7) && !mDenied x.l4 ext t.s0 kd)) := by unfold mMayA; rw [hat]; rfl
    rw [e1]
    have hln := hr.1.len
    have hkn : k < x.n1 := by omega
    have hn1 : x.n1 ≤ 1048576 := by rw [hr.sz] at hz; omega
    have hn3 : x.n3 ≤ 1048576 := by rw [hr.sz] at hz; omega
    have hn4 : x.n4 ≤ 1048576 := by rw [hr.sz] at hz; omega
    have htz := MTab.szs_mem (x.l1.map DTab.dat) k t.dat (by rw [List.getElem?_map, hkt]; rfl)
    have htz2 : t.dat.sz ≤ 1048575 := by rw [hr.sz] at hz; omega
    have hto : t.dat.ok := hok.2.1 t.dat (List.mem_map.2 ⟨t, List.mem_of_getElem? hkt, rfl⟩)
    have HX := (hr.old).1.at_ hkt
    have hts := DTab.rd_sz HX
    have hls := DTab.rd_lens HX
    have CI := Lib.hid (fun W (hb : Below w.heap.size w W) => impl_IsClicked t.s0 t.l1 t.A1 t.n1 t.c1 0 w.heap.size t.l2 t.A2 t.n2 t.c2 0 w.heap.size t.l3 t.A3 t.n3 t.c3 0 w.heap.size t.p4 x.p7 W (by omega) (HX.1.2.new hb) (Lib.hid hto.2.1) (by omega) (HX.2.1.2.new hb) (Lib.hid hto.2.2.1) (by omega) (HX.2.2.2.new hb) (Lib.hid hto.2.2.2.1))
    have CM := Lib.hid (fun (W : World) (hb : Below w.heap.size w W) => impl_MayDoC x.l3 x.A3 x.n3 x.c3 lo hi x.l4 x.A4 x.n4 x.c4 lo hi ext t.s0 kd x.p7 (mClicked t.p4 x.p7) W hn3 (hr.2.2.1.2.new hb) hc.1 (Lib.hid hok.2.2.2.1) hn4 (hr.2.2.2.1.2.new hb) hc.2.1 (Lib.hid hok.2.2.2.2.1))
    obtain ⟨b, off, t2, hA, hlo, hhi, hkt2, hcc⟩ := rd_elem DTab.len (hr.old).1.2.1 hln hkn
    obtain rfl : t = t2 := Option.some.inj (hkt.symm.trans hkt2)
    have HCC := Lib.hid (fun (W : World) (hb : Below w.heap.size w W) (j : Nat) (u : Value) (hu : t.cells[j]? = some u) => (World.cell?_of_block (a := ⟨b, off + k * 6 + j, none⟩) (hb.block b hhi)).trans (hcc j u hu))
    generalize (mAllowed x.l3 ext t.s0 kd x.p7 (mClicked t.p4 x.p7) && !mDenied x.l4 ext t.s0 kd) = b2 at CM ⊢
    generalize mClicked t.p4 x.p7 = b3 at CI CM
    have KB0 := Lib.hid (show BoxAt (w.alloc (.cells #[.int .i64 x.p0, .slice x.A1 x.n1 x.c1, .slice x.A2 x.n2 x.c2, .slice x.A3 x.n3 x.c3, .slice x.A4 x.n4 x.c4, .slice x.A5 x.n5 x.c5, .slice x.A6 x.n6 x.c6, .int .i64 x.p7] 40)) w.heap.size 40 #[.int .i64 x.p0, .slice (some ⟨b, off, none⟩) x.n1 x.c1, .slice x.A2 x.n2 x.c2, .slice x.A3 x.n3 x.c3, .slice x.A4 x.n4 x.c4, .slice x.A5 x.n5 x.c5, .slice x.A6 x.n6 x.c6, .int .i64 x.p7] by rw [← hA]; exact box_new w 40 #[.int .i64 x.p0, .slice x.A1 x.n1 x.c1, .slice x.A2 x.n2 x.c2, .slice x.A3 x.n3 x.c3, .slice x.A4 x.n4 x.c4, .slice x.A5 x.n5 x.c5, .slice x.A6 x.n6 x.c6, .int .i64 x.p7])
    rw [hA] at CP
    replace hA := Lib.hid hA
    generalize mPackOf x.dat ext = pk at CP ⊢
    generalize hb1d : decide (0 ≤ pk) = b1
    clear hin hr hz hok hl e1 hat hkt hkt2 hcc htz htz2 hto hts hls HX hln hlo hhi hk hc
    go_enter Tryz.func28, Tryz.ntmps28
    go_wp2_with fail
    refine (CH.out _ (HR.out.alloc _)).mono ?_
    rintro e w1 ⟨rfl, hb1⟩
    have HB1 := Lib.hid (below_trans ((Below.refl w.heap.size w).alloc (Nat.le_refl _) _) hb1 (by simp))
    have KB1 := Lib.hid (KB0.out.new hb1)
    clear hb1
    have k1 := KB1.out.at_ (j := 1) (u := .slice (some ⟨b, off, none⟩) x.n1 x.c1) rfl
    have c0 : w1.cell? ⟨b, off + k * 6, none⟩ = some (.int .i64 t.s0.f0) := HCC.out w1 HB1.out 0 _ rfl
    have c1 : w1.cell? ⟨b, off + k * 6 + 1, none⟩ = some (.int .i64 t.s0.f1) := HCC.out w1 HB1.out 1 _ rfl
    have c2 : w1.cell? ⟨b, off + k * 6 + 2, none⟩ = some (.slice t.A1 t.n1 t.c1) := HCC.out w1 HB1.out 2 _ rfl
    have c3 : w1.cell? ⟨b, off + k * 6 + 3, none⟩ = some (.slice t.A2 t.n2 t.c2) := HCC.out w1 HB1.out 3 _ rfl
    have c4 : w1.cell? ⟨b, off + k * 6 + 4, none⟩ = some (.slice t.A3 t.n3 t.c3) := HCC.out w1 HB1.out 4 _ rfl
    have c5 : w1.cell? ⟨b, off + k * 6 + 5, none⟩ = some (.int .i64 t.p4) := HCC.out w1 HB1.out 5 _ rfl
    have KBv := Lib.hid (KB1.out.alloc_ (.cells #[.int .i64 t.s0.f0, .int .i64 t.s0.f1, .slice t.A1 t.n1 t.c1, .slice t.A2 t.n2 t.c2, .slice t.A3 t.n3 t.c3, .int .i64 t.p4] 61))
    have KTv := Lib.hid (box_new w1 61 #[.int .i64 t.s0.f0, .int .i64 t.s0.f1, .slice t.A1 t.n1 t.c1, .slice t.A2 t.n2 t.c2, .slice t.A3 t.n3 t.c3, .int .i64 t.p4])
    have HBv := Lib.hid (HB1.out.alloc HB1.out.size (.cells #[.int .i64 t.s0.f0, .int .i64 t.s0.f1, .slice t.A1 t.n1 t.c1, .slice t.A2 t.n2 t.c2, .slice t.A3 t.n3 t.c3, .int .i64 t.p4] 61))
    have hmm := make_mapQ
    go_wp2_with fail
    refine wp_region_held_drew (S := fun w' => BoxAt w' w.heap.size 40 #[.int .i64 x.p0, .slice (some ⟨b, off, none⟩) x.n1 x.c1, .slice x.A2 x.n2 x.c2, .slice x.A3 x.n3 x.c3, .slice x.A4 x.n4 x.c4, .slice x.A5 x.n5 x.c5, .slice x.A6 x.n6 x.c6, .int .i64 x.p7] ∧ BoxAt w' w1.heap.size 61 #[.int .i64 t.s0.f0, .int .i64 t.s0.f1, .slice t.A1 t.n1 t.c1, .slice t.A2 t.n2 t.c2, .slice t.A3 t.n3 t.c3, .int .i64 t.p4] ∧ Below w.heap.size w w') (by kernel_rfl) ?_ (fun hHeld => ?_)
    · exact ⟨KBv.out.drw, KTv.out.drw, HBv.out.drew⟩
    generalize (World.drew _) = x0 at hHeld ⊢
    refine wpAnyH_take (i := 1) (oi := ⟨some 23, _, _, _, _, _⟩) (v := ?_) rfl (by kernel_rfl) (by kernel_rfl) (by kernel_rfl) (fun _ _ _ h => h) (Or.inl ⟨by kernel_rfl, ?_⟩) hHeld ?_
    rotate_left
    focus (intro W hS; have c0_0 := (hS.1).at_ (j := 0) rfl; have c0_1 := (hS.1).at_ (j := 1) rfl; have c0_2 := (hS.1).at_ (j := 2) rfl; have c0_3 := (hS.1).at_ (j := 3) rfl; have c0_4 := (hS.1).at_ (j := 4) rfl; have c0_5 := (hS.1).at_ (j := 5) rfl; have c0_6 := (hS.1).at_ (j := 6) rfl; have c0_7 := (hS.1).at_ (j := 7) rfl; have c1_0 := (hS.2.1).at_ (j := 0) rfl; have c1_1 := (hS.2.1).at_ (j := 1) rfl; have c1_2 := (hS.2.1).at_ (j := 2) rfl; have c1_3 := (hS.2.1).at_ (j := 3) rfl; have c1_4 := (hS.2.1).at_ (j := 4) rfl; have c1_5 := (hS.2.1).at_ (j := 5) rfl; clear hS; first | (go_simp; done) | (go_simp; with_reducible rfl))
    try simp only [Act.put, List.setIfInBounds_toArray, List.set_cons_zero, List.set_cons_succ]
    refine wpAnyH_take (i := 2) (oi := ⟨some 24, _, _, _, _, _⟩) (v := ?_) rfl (by kernel_rfl) (by kernel_rfl) (by kernel_rfl) (fun _ _ _ h => h) (Or.inl ⟨by kernel_rfl, ?_⟩) hHeld ?_
    rotate_left
    focus (intro W hS; have c0_0 := (hS.1).at_ (j := 0) rfl; have c0_1 := (hS.1).at_ (j := 1) rfl; have c0_2 := (hS.1).at_ (j := 2) rfl; have c0_3 := (hS.1).at_ (j := 3) rfl; have c0_4 := (hS.1).at_ (j := 4) rfl; have c0_5 := (hS.1).at_ (j := 5) rfl; have c0_6 := (hS.1).at_ (j := 6) rfl; have c0_7 := (hS.1).at_ (j := 7) rfl; have c1_0 := (hS.2.1).at_ (j := 0) rfl; have c1_1 := (hS.2.1).at_ (j := 1) rfl; have c1_2 := (hS.2.1).at_ (j := 2) rfl; have c1_3 := (hS.2.1).at_ (j := 3) rfl; have c1_4 := (hS.2.1).at_ (j := 4) rfl; have c1_5 := (hS.2.1).at_ (j := 5) rfl; clear hS; first | (go_simp; done) | (go_simp; with_reducible rfl))
    try simp only [Act.put, List.setIfInBounds_toArray, List.set_cons_zero, List.set_cons_succ]
    refine wpAnyH_take (i := 6) (oi := ⟨some 27, _, _, _, _, _⟩) (v := ?_) rfl (by kernel_rfl) (by kernel_rfl) (by kernel_rfl) (fun _ _ _ h => h) (Or.inl ⟨by kernel_rfl, ?_⟩) hHeld ?_
    rotate_left
    focus (intro W hS; have c0_0 := (hS.1).at_ (j := 0) rfl; have c0_1 := (hS.1).at_ (j := 1) rfl; have c0_2 := (hS.1).at_ (j := 2) rfl; have c0_3 := (hS.1).at_ (j := 3) rfl; have c0_4 := (hS.1).at_ (j := 4) rfl; have c0_5 := (hS.1).at_ (j := 5) rfl; have c0_6 := (hS.1).at_ (j := 6) rfl; have c0_7 := (hS.1).at_ (j := 7) rfl; have c1_0 := (hS.2.1).at_ (j := 0) rfl; have c1_1 := (hS.2.1).at_ (j := 1) rfl; have c1_2 := (hS.2.1).at_ (j := 2) rfl; have c1_3 := (hS.2.1).at_ (j := 3) rfl; have c1_4 := (hS.2.1).at_ (j := 4) rfl; have c1_5 := (hS.2.1).at_ (j := 5) rfl; clear hS; first | (go_simp; done) | (go_simp; with_reducible rfl))
    try simp only [Act.put, List.setIfInBounds_toArray, List.set_cons_zero, List.set_cons_succ]
    refine wpAnyH_take (i := 7) (oi := ⟨some 28, _, _, _, _, _⟩) (v := ?_) rfl (by kernel_rfl) (by kernel_rfl) (by kernel_rfl) (fun _ _ _ h => h) (Or.inl ⟨by kernel_rfl, ?_⟩) hHeld ?_
    rotate_left
    focus (intro W hS; have c0_0 := (hS.1).at_ (j := 0) rfl; have c0_1 := (hS.1).at_ (j := 1) rfl; have c0_2 := (hS.1).at_ (j := 2) rfl; have c0_3 := (hS.1).at_ (j := 3) rfl; have c0_4 := (hS.1).at_ (j := 4) rfl; have c0_5 := (hS.1).at_ (j := 5) rfl; have c0_6 := (hS.1).at_ (j := 6) rfl; have c0_7 := (hS.1).at_ (j := 7) rfl; have c1_0 := (hS.2.1).at_ (j := 0) rfl; have c1_1 := (hS.2.1).at_ (j := 1) rfl; have c1_2 := (hS.2.1).at_ (j := 2) rfl; have c1_3 := (hS.2.1).at_ (j := 3) rfl; have c1_4 := (hS.2.1).at_ (j := 4) rfl; have c1_5 := (hS.2.1).at_ (j := 5) rfl; clear hS; first | (go_simp; done) | (go_simp; with_reducible rfl))
    try simp only [Act.put, List.setIfInBounds_toArray, List.set_cons_zero, List.set_cons_succ]
    refine wpAnyH_take (i := 8) (oi := ⟨some 29, _, _, _, _, _⟩) (v := ?_) rfl (by kernel_rfl) (by kernel_rfl) (by kernel_rfl) (fun _ _ _ h => h) (Or.inl ⟨by kernel_rfl, ?_⟩) hHeld ?_
    rotate_left
    focus (intro W hS; have c0_0 := (hS.1).at_ (j := 0) rfl; have c0_1 := (hS.1).at_ (j := 1) rfl; have c0_2 := (hS.1).at_ (j := 2) rfl; have c0_3 := (hS.1).at_ (j := 3) rfl; have c0_4 := (hS.1).at_ (j := 4) rfl; have c0_5 := (hS.1).at_ (j := 5) rfl; have c0_6 := (hS.1).at_ (j := 6) rfl; have c0_7 := (hS.1).at_ (j := 7) rfl; have c1_0 := (hS.2.1).at_ (j := 0) rfl; have c1_1 := (hS.2.1).at_ (j := 1) rfl; have c1_2 := (hS.2.1).at_ (j := 2) rfl; have c1_3 := (hS.2.1).at_ (j := 3) rfl; have c1_4 := (hS.2.1).at_ (j := 4) rfl; have c1_5 := (hS.2.1).at_ (j := 5) rfl; clear hS; first | (go_simp; done) | (go_simp; with_reducible rfl))
    try simp only [Act.put, List.setIfInBounds_toArray, List.set_cons_zero, List.set_cons_succ]
    refine wpAnyH_take (i := 9) (oi := ⟨some 30, _, _, _, _, _⟩) (v := ?_) rfl (by kernel_rfl) (by kernel_rfl) (by kernel_rfl) (fun _ _ _ h => h) (Or.inl ⟨by kernel_rfl, ?_⟩) hHeld ?_
    rotate_left
    focus (intro W hS; have c0_0 := (hS.1).at_ (j := 0) rfl; have c0_1 := (hS.1).at_ (j := 1) rfl; have c0_2 := (hS.1).at_ (j := 2) rfl; have c0_3 := (hS.1).at_ (j := 3) rfl; have c0_4 := (hS.1).at_ (j := 4) rfl; have c0_5 := (hS.1).at_ (j := 5) rfl; have c0_6 := (hS.1).at_ (j := 6) rfl; have c0_7 := (hS.1).at_ (j := 7) rfl; have c1_0 := (hS.2.1).at_ (j := 0) rfl; have c1_1 := (hS.2.1).at_ (j := 1) rfl; have c1_2 := (hS.2.1).at_ (j := 2) rfl; have c1_3 := (hS.2.1).at_ (j := 3) rfl; have c1_4 := (hS.2.1).at_ (j := 4) rfl; have c1_5 := (hS.2.1).at_ (j := 5) rfl; clear hS; first | (go_simp; done) | (go_simp; with_reducible rfl))
    try simp only [Act.put, List.setIfInBounds_toArray, List.set_cons_zero, List.set_cons_succ]
    refine wpAnyH_take (i := 10) (oi := ⟨some 31, _, _, _, _, _⟩) (v := ?_) rfl (by kernel_rfl) (by kernel_rfl) (by kernel_rfl) (fun _ _ _ h => h) (Or.inl ⟨by kernel_rfl, ?_⟩) hHeld ?_
    rotate_left
    focus (intro W hS; have c0_0 := (hS.1).at_ (j := 0) rfl; have c0_1 := (hS.1).at_ (j := 1) rfl; have c0_2 := (hS.1).at_ (j := 2) rfl; have c0_3 := (hS.1).at_ (j := 3) rfl; have c0_4 := (hS.1).at_ (j := 4) rfl; have c0_5 := (hS.1).at_ (j := 5) rfl; have c0_6 := (hS.1).at_ (j := 6) rfl; have c0_7 := (hS.1).at_ (j := 7) rfl; have c1_0 := (hS.2.1).at_ (j := 0) rfl; have c1_1 := (hS.2.1).at_ (j := 1) rfl; have c1_2 := (hS.2.1).at_ (j := 2) rfl; have c1_3 := (hS.2.1).at_ (j := 3) rfl; have c1_4 := (hS.2.1).at_ (j := 4) rfl; have c1_5 := (hS.2.1).at_ (j := 5) rfl; clear hS; first | (go_simp; done) | (go_simp; with_reducible rfl))
    try simp only [Act.put, List.setIfInBounds_toArray, List.set_cons_zero, List.set_cons_succ]
    refine wpAnyH_take (i := 11) (oi := ⟨some 32, _, _, _, _, _⟩) (v := ?_) rfl (by kernel_rfl) (by kernel_rfl) (by kernel_rfl) (fun _ _ _ h => h) (Or.inl ⟨by kernel_rfl, ?_⟩) hHeld ?_
    rotate_left
    focus (intro W hS; have c0_0 := (hS.1).at_ (j := 0) rfl; have c0_1 := (hS.1).at_ (j := 1) rfl; have c0_2 := (hS.1).at_ (j := 2) rfl; have c0_3 := (hS.1).at_ (j := 3) rfl; have c0_4 := (hS.1).at_ (j := 4) rfl; have c0_5 := (hS.1).at_ (j := 5) rfl; have c0_6 := (hS.1).at_ (j := 6) rfl; have c0_7 := (hS.1).at_ (j := 7) rfl; have c1_0 := (hS.2.1).at_ (j := 0) rfl; have c1_1 := (hS.2.1).at_ (j := 1) rfl; have c1_2 := (hS.2.1).at_ (j := 2) rfl; have c1_3 := (hS.2.1).at_ (j := 3) rfl; have c1_4 := (hS.2.1).at_ (j := 4) rfl; have c1_5 := (hS.2.1).at_ (j := 5) rfl; clear hS; first | (go_simp; done) | (go_simp; with_reducible rfl))
    try simp only [Act.put, List.setIfInBounds_toArray, List.set_cons_zero, List.set_cons_succ]
    refine wpAnyH_take (i := 12) (oi := ⟨some 33, _, _, _, _, _⟩) (v := ?_) rfl (by kernel_rfl) (by kernel_rfl) (by kernel_rfl) (fun _ _ _ h => h) (Or.inl ⟨by kernel_rfl, ?_⟩) hHeld ?_
    rotate_left
    focus (intro W hS; have c0_0 := (hS.1).at_ (j := 0) rfl; have c0_1 := (hS.1).at_ (j := 1) rfl; have c0_2 := (hS.1).at_ (j := 2) rfl; have c0_3 := (hS.1).at_ (j := 3) rfl; have c0_4 := (hS.1).at_ (j := 4) rfl; have c0_5 := (hS.1).at_ (j := 5) rfl; have c0_6 := (hS.1).at_ (j := 6) rfl; have c0_7 := (hS.1).at_ (j := 7) rfl; have c1_0 := (hS.2.1).at_ (j := 0) rfl; have c1_1 := (hS.2.1).at_ (j := 1) rfl; have c1_2 := (hS.2.1).at_ (j := 2) rfl; have c1_3 := (hS.2.1).at_ (j := 3) rfl; have c1_4 := (hS.2.1).at_ (j := 4) rfl; have c1_5 := (hS.2.1).at_ (j := 5) rfl; clear hS; first | (go_simp; done) | (go_simp; with_reducible rfl))
    try simp only [Act.put, List.setIfInBounds_toArray, List.set_cons_zero, List.set_cons_succ]
    refine wpAnyH_take (i := 13) (oi := ⟨some 34, _, _, _, _, _⟩) (v := ?_) rfl (by kernel_rfl) (by kernel_rfl) (by kernel_rfl) (fun _ _ _ h => h) (Or.inl ⟨by kernel_rfl, ?_⟩) hHeld ?_
    rotate_left
    focus (intro W hS; have c0_0 := (hS.1).at_ (j := 0) rfl; have c0_1 := (hS.1).at_ (j := 1) rfl; have c0_2 := (hS.1).at_ (j := 2) rfl; have c0_3 := (hS.1).at_ (j := 3) rfl; have c0_4 := (hS.1).at_ (j := 4) rfl; have c0_5 := (hS.1).at_ (j := 5) rfl; have c0_6 := (hS.1).at_ (j := 6) rfl; have c0_7 := (hS.1).at_ (j := 7) rfl; have c1_0 := (hS.2.1).at_ (j := 0) rfl; have c1_1 := (hS.2.1).at_ (j := 1) rfl; have c1_2 := (hS.2.1).at_ (j := 2) rfl; have c1_3 := (hS.2.1).at_ (j := 3) rfl; have c1_4 := (hS.2.1).at_ (j := 4) rfl; have c1_5 := (hS.2.1).at_ (j := 5) rfl; clear hS; first | (go_simp; done) | (go_simp; with_reducible rfl))
    try simp only [Act.put, List.setIfInBounds_toArray, List.set_cons_zero, List.set_cons_succ]
    refine wpAnyH_take (i := 14) (oi := ⟨some 35, _, _, _, _, _⟩) (v := ?_) rfl (by kernel_rfl) (by kernel_rfl) (by kernel_rfl) (fun _ _ _ h => h) (Or.inl ⟨by kernel_rfl, ?_⟩) hHeld ?_
    rotate_left
    focus (intro W hS; have c0_0 := (hS.1).at_ (j := 0) rfl; have c0_1 := (hS.1).at_ (j := 1) rfl; have c0_2 := (hS.1).at_ (j := 2) rfl; have c0_3 := (hS.1).at_ (j := 3) rfl; have c0_4 := (hS.1).at_ (j := 4) rfl; have c0_5 := (hS.1).at_ (j := 5) rfl; have c0_6 := (hS.1).at_ (j := 6) rfl; have c0_7 := (hS.1).at_ (j := 7) rfl; have c1_0 := (hS.2.1).at_ (j := 0) rfl; have c1_1 := (hS.2.1).at_ (j := 1) rfl; have c1_2 := (hS.2.1).at_ (j := 2) rfl; have c1_3 := (hS.2.1).at_ (j := 3) rfl; have c1_4 := (hS.2.1).at_ (j := 4) rfl; have c1_5 := (hS.2.1).at_ (j := 5) rfl; clear hS; first | (go_simp; done) | (go_simp; with_reducible rfl))
    try simp only [Act.put, List.setIfInBounds_toArray, List.set_cons_zero, List.set_cons_succ]
    refine wpAnyH_take (i := 15) (oi := ⟨some 36, _, _, _, _, _⟩) (v := ?_) rfl (by kernel_rfl) (by kernel_rfl) (by kernel_rfl) (fun _ _ _ h => h) (Or.inl ⟨by kernel_rfl, ?_⟩) hHeld ?_
    rotate_left
    focus (intro W hS; have c0_0 := (hS.1).at_ (j := 0) rfl; have c0_1 := (hS.1).at_ (j := 1) rfl; have c0_2 := (hS.1).at_ (j := 2) rfl; have c0_3 := (hS.1).at_ (j := 3) rfl; have c0_4 := (hS.1).at_ (j := 4) rfl; have c0_5 := (hS.1).at_ (j := 5) rfl; have c0_6 := (hS.1).at_ (j := 6) rfl; have c0_7 := (hS.1).at_ (j := 7) rfl; have c1_0 := (hS.2.1).at_ (j := 0) rfl; have c1_1 := (hS.2.1).at_ (j := 1) rfl; have c1_2 := (hS.2.1).at_ (j := 2) rfl; have c1_3 := (hS.2.1).at_ (j := 3) rfl; have c1_4 := (hS.2.1).at_ (j := 4) rfl; have c1_5 := (hS.2.1).at_ (j := 5) rfl; clear hS; first | (go_simp; done) | (go_simp; with_reducible rfl))
    try simp only [Act.put, List.setIfInBounds_toArray, List.set_cons_zero, List.set_cons_succ]
    refine wpAnyH_take (i := 16) (oi := ⟨some 37, _, _, _, _, _⟩) (v := ?_) rfl (by kernel_rfl) (by kernel_rfl) (by kernel_rfl) (fun _ _ _ h => h) (Or.inl ⟨by kernel_rfl, ?_⟩) hHeld ?_
    rotate_left
    focus (intro W hS; have c0_0 := (hS.1).at_ (j := 0) rfl; have c0_1 := (hS.1).at_ (j := 1) rfl; have c0_2 := (hS.1).at_ (j := 2) rfl; have c0_3 := (hS.1).at_ (j := 3) rfl; have c0_4 := (hS.1).at_ (j := 4) rfl; have c0_5 := (hS.1).at_ (j := 5) rfl; have c0_6 := (hS.1).at_ (j := 6) rfl; have c0_7 := (hS.1).at_ (j := 7) rfl; have c1_0 := (hS.2.1).at_ (j := 0) rfl; have c1_1 := (hS.2.1).at_ (j := 1) rfl; have c1_2 := (hS.2.1).at_ (j := 2) rfl; have c1_3 := (hS.2.1).at_ (j := 3) rfl; have c1_4 := (hS.2.1).at_ (j := 4) rfl; have c1_5 := (hS.2.1).at_ (j := 5) rfl; clear hS; first | (go_simp; done) | (go_simp; with_reducible rfl))
    try simp only [Act.put, List.setIfInBounds_toArray, List.set_cons_zero, List.set_cons_succ]
    refine wpAnyH_take (i := 17) (oi := ⟨some 38, _, _, _, _, _⟩) (v := ?_) rfl (by kernel_rfl) (by kernel_rfl) (by kernel_rfl) (fun _ _ _ h => h) (Or.inl ⟨by kernel_rfl, ?_⟩) hHeld ?_
    rotate_left
    focus (intro W hS; have c0_0 := (hS.1).at_ (j := 0) rfl; have c0_1 := (hS.1).at_ (j := 1) rfl; have c0_2 := (hS.1).at_ (j := 2) rfl; have c0_3 := (hS.1).at_ (j := 3) rfl; have c0_4 := (hS.1).at_ (j := 4) rfl; have c0_5 := (hS.1).at_ (j := 5) rfl; have c0_6 := (hS.1).at_ (j := 6) rfl; have c0_7 := (hS.1).at_ (j := 7) rfl; have c1_0 := (hS.2.1).at_ (j := 0) rfl; have c1_1 := (hS.2.1).at_ (j := 1) rfl; have c1_2 := (hS.2.1).at_ (j := 2) rfl; have c1_3 := (hS.2.1).at_ (j := 3) rfl; have c1_4 := (hS.2.1).at_ (j := 4) rfl; have c1_5 := (hS.2.1).at_ (j := 5) rfl; clear hS; first | (go_simp; done) | (go_simp; with_reducible rfl))
    try simp only [Act.put, List.setIfInBounds_toArray, List.set_cons_zero, List.set_cons_succ]
    refine wpAnyH_take (i := 18) (oi := ⟨some 39, _, _, _, _, _⟩) (v := ?_) rfl (by kernel_rfl) (by kernel_rfl) (by kernel_rfl) (fun _ _ _ h => h) (Or.inl ⟨by kernel_rfl, ?_⟩) hHeld ?_
    rotate_left
    focus (intro W hS; have c0_0 := (hS.1).at_ (j := 0) rfl; have c0_1 := (hS.1).at_ (j := 1) rfl; have c0_2 := (hS.1).at_ (j := 2) rfl; have c0_3 := (hS.1).at_ (j := 3) rfl; have c0_4 := (hS.1).at_ (j := 4) rfl; have c0_5 := (hS.1).at_ (j := 5) rfl; have c0_6 := (hS.1).at_ (j := 6) rfl; have c0_7 := (hS.1).at_ (j := 7) rfl; have c1_0 := (hS.2.1).at_ (j := 0) rfl; have c1_1 := (hS.2.1).at_ (j := 1) rfl; have c1_2 := (hS.2.1).at_ (j := 2) rfl; have c1_3 := (hS.2.1).at_ (j := 3) rfl; have c1_4 := (hS.2.1).at_ (j := 4) rfl; have c1_5 := (hS.2.1).at_ (j := 5) rfl; clear hS; first | (go_simp; done) | (go_simp; with_reducible rfl))
    try simp only [Act.put, List.setIfInBounds_toArray, List.set_cons_zero, List.set_cons_succ]
    refine wpAnyH_ready (rs := [0, 3]) (by kernel_rfl) (by simp) ?_
    refine AllReadyH.cons (o := ⟨some 22, _, _, _, _, _⟩) rfl (fun K hK => ?_) ?_
    · skip
      go_simp
      have GQ := mapQ_made x0
      have hb1 := (Below.refl (x0).heap.size x0).alloc (Nat.le_refl _) (.map #[] 0)
      have M0Q : w.heap.size < (x0).heap.size := hHeld.1.lt
      have M1Q : w1.heap.size < (x0).heap.size := hHeld.2.1.lt
      generalize (x0).alloc (.map #[] 0) = xm at hb1 GQ ⊢
      generalize hg : (x0).heap.size = gQ at GQ M0Q M1Q ⊢
      have hb2 : Below (x0).heap.size x0 xm := by rw [hg]; rw [hg] at hb1; exact hb1
      clear hg hb1
      refine hK.out _ _ ⟨hHeld.1.new hb2, hHeld.2.1.new hb2, below_trans hHeld.2.2 hb2 (Nat.le_refl _)⟩ (fun hHeld' => ?_)
      clear hK K hHeld hb2
      have hHeld := hHeld'
      clear hHeld'
      generalize xm = x1 at hHeld GQ ⊢
      try simp only [Act.put, List.setIfInBounds_toArray, List.set_cons_zero, List.set_cons_succ]
      refine wpAnyH_ready (rs := [3]) (by kernel_rfl) (by simp) ?_
      refine AllReadyH.cons (o := ⟨some 25, _, _, _, _, _⟩) rfl (fun K hK => ?_) AllReadyH.nil
      go_simp
      refine Calls.mono (CP.out _ hHeld.2.2) ?_
      rintro e x2 ⟨rfl, hb1⟩
      replace GQ := GQ.new hb1
      refine hK.out _ _ ⟨hHeld.1.new hb1, hHeld.2.1.new hb1, below_trans hHeld.2.2 hb1 (Nat.le_refl _)⟩ (fun hHeld' => ?_)
      clear hK K hHeld hb1
      have hHeld := hHeld'
      clear hHeld'
      try simp only [Act.put, List.setIfInBounds_toArray, List.set_cons_zero, List.set_cons_succ]
      refine wpAnyH_take (i := 4) (oi := ⟨some 26, _, _, _, _, _⟩) (v := ?_) rfl (by kernel_rfl) (by kernel_rfl) (by kernel_rfl) (fun _ _ _ h => h) (Or.inl ⟨by kernel_rfl, ?_⟩) hHeld ?_
      rotate_left
      focus (intro W hS; have c0_0 := (hS.1).at_ (j := 0) rfl; have c0_1 := (hS.1).at_ (j := 1) rfl; have c0_2 := (hS.1).at_ (j := 2) rfl; have c0_3 := (hS.1).at_ (j := 3) rfl; have c0_4 := (hS.1).at_ (j := 4) rfl; have c0_5 := (hS.1).at_ (j := 5) rfl; have c0_6 := (hS.1).at_ (j := 6) rfl; have c0_7 := (hS.1).at_ (j := 7) rfl; have c1_0 := (hS.2.1).at_ (j := 0) rfl; have c1_1 := (hS.2.1).at_ (j := 1) rfl; have c1_2 := (hS.2.1).at_ (j := 2) rfl; have c1_3 := (hS.2.1).at_ (j := 3) rfl; have c1_4 := (hS.2.1).at_ (j := 4) rfl; have c1_5 := (hS.2.1).at_ (j := 5) rfl; clear hS; first | (go_simp; done) | (go_simp; with_reducible rfl))
      try simp only [Act.put, List.setIfInBounds_toArray, List.set_cons_zero, List.set_cons_succ]
      refine wpAnyH_ready (rs := [5, 19]) (by kernel_rfl) (by simp) ?_
      refine AllReadyH.cons (o := ⟨none, _, _, _, _, _⟩) rfl (fun K hK => ?_) ?_
      · skip
        obtain ⟨xq, hrun, hGQ, hgr⟩ := GQ.put1 (by unfold maxLen; omega) b1
        go_simp
        refine hK.out _ _ ⟨hHeld.1.grown hgr (by omega), hHeld.2.1.grown hgr (by omega), grown_below hHeld.2.2 hgr (Nat.le_refl _) (fun q hq => by injection hq with hq; omega)⟩ (fun hHeld' => ?_)
        clear hK K hHeld hrun hgr
        replace GQ := hGQ
        clear hGQ
        have hHeld := hHeld'
        clear hHeld'
        generalize xq = x3 at hHeld GQ ⊢
        try simp only [Act.put, List.setIfInBounds_toArray, List.set_cons_zero, List.set_cons_succ]
        refine wpAnyH_ready (rs := [19]) (by kernel_rfl) (by simp) ?_
        refine AllReadyH.cons (o := ⟨some 40, _, _, _, _, _⟩) rfl (fun K hK => ?_) AllReadyH.nil
        go_simp
        refine Calls.mono (CI.out _ hHeld.2.2) ?_
        rintro e x4 ⟨rfl, hb1⟩
        replace GQ := GQ.new hb1
        refine hK.out _ _ ⟨hHeld.1.new hb1, hHeld.2.1.new hb1, below_trans hHeld.2.2 hb1 (Nat.le_refl _)⟩ (fun hHeld' => ?_)
        clear hK K hHeld hb1
        have hHeld := hHeld'
        clear hHeld'
        try simp only [Act.put, List.setIfInBounds_toArray, List.set_cons_zero, List.set_cons_succ]
        refine wpAnyH_ready (rs := [20]) (by kernel_rfl) (by simp) ?_
        refine AllReadyH.cons (o := ⟨some 41, _, _, _, _, _⟩) rfl (fun K hK => ?_) AllReadyH.nil
        go_simp
        refine Calls.mono (CM.out _ hHeld.2.2) ?_
        rintro e x5 ⟨rfl, hb1⟩
        replace GQ := GQ.new hb1
        refine hK.out _ _ ⟨hHeld.1.new hb1, hHeld.2.1.new hb1, below_trans hHeld.2.2 hb1 (Nat.le_refl _)⟩ (fun hHeld' => ?_)
        clear hK K hHeld hb1
        have hHeld := hHeld'
        clear hHeld'
        try simp only [Act.put, List.setIfInBounds_toArray, List.set_cons_zero, List.set_cons_succ]
        refine wpAnyH_ready (rs := [21]) (by kernel_rfl) (by simp) ?_
        refine AllReadyH.cons (o := ⟨none, _, _, _, _, _⟩) rfl (fun K hK => ?_) AllReadyH.nil
        obtain ⟨xq, hrun, hGQ, hgr⟩ := GQ.put2 (by unfold maxLen; omega) b2
        go_simp
        refine hK.out _ _ ⟨hHeld.1.grown hgr (by omega), hHeld.2.1.grown hgr (by omega), grown_below hHeld.2.2 hgr (Nat.le_refl _) (fun q hq => by injection hq with hq; omega)⟩ (fun hHeld' => ?_)
        clear hK K hHeld hrun hgr
        replace GQ := hGQ
        clear hGQ
        have hHeld := hHeld'
        clear hHeld'
        generalize xq = x6 at hHeld GQ ⊢
        try simp only [Act.put, List.setIfInBounds_toArray, List.set_cons_zero, List.set_cons_succ]
        refine wpAnyH_take (i := 22) (oi := ⟨some 42, _, _, _, _, _⟩) (v := ?_) rfl (by kernel_rfl) (by kernel_rfl) (by kernel_rfl) (fun _ _ _ h => h) (Or.inl ⟨by kernel_rfl, ?_⟩) hHeld ?_
        rotate_left
        focus (intro W hS; have c0_0 := (hS.1).at_ (j := 0) rfl; have c0_1 := (hS.1).at_ (j := 1) rfl; have c0_2 := (hS.1).at_ (j := 2) rfl; have c0_3 := (hS.1).at_ (j := 3) rfl; have c0_4 := (hS.1).at_ (j := 4) rfl; have c0_5 := (hS.1).at_ (j := 5) rfl; have c0_6 := (hS.1).at_ (j := 6) rfl; have c0_7 := (hS.1).at_ (j := 7) rfl; have c1_0 := (hS.2.1).at_ (j := 0) rfl; have c1_1 := (hS.2.1).at_ (j := 1) rfl; have c1_2 := (hS.2.1).at_ (j := 2) rfl; have c1_3 := (hS.2.1).at_ (j := 3) rfl; have c1_4 := (hS.2.1).at_ (j := 4) rfl; have c1_5 := (hS.2.1).at_ (j := 5) rfl; clear hS; first | (go_simp; done) | (go_simp; with_reducible rfl))
        try simp only [Act.put, List.setIfInBounds_toArray, List.set_cons_zero, List.set_cons_succ]
        refine wpAnyH_take (i := 23) (oi := ⟨some 10, _, _, _, _, _⟩) (v := ?_) rfl (by kernel_rfl) (by kernel_rfl) (by kernel_rfl) (fun _ _ _ h => h) (Or.inl ⟨by kernel_rfl, ?_⟩) hHeld ?_
        rotate_left
        focus (intro W hS; have c0_0 := (hS.1).at_ (j := 0) rfl; have c0_1 := (hS.1).at_ (j := 1) rfl; have c0_2 := (hS.1).at_ (j := 2) rfl; have c0_3 := (hS.1).at_ (j := 3) rfl; have c0_4 := (hS.1).at_ (j := 4) rfl; have c0_5 := (hS.1).at_ (j := 5) rfl; have c0_6 := (hS.1).at_ (j := 6) rfl; have c0_7 := (hS.1).at_ (j := 7) rfl; have c1_0 := (hS.2.1).at_ (j := 0) rfl; have c1_1 := (hS.2.1).at_ (j := 1) rfl; have c1_2 := (hS.2.1).at_ (j := 2) rfl; have c1_3 := (hS.2.1).at_ (j := 3) rfl; have c1_4 := (hS.2.1).at_ (j := 4) rfl; have c1_5 := (hS.2.1).at_ (j := 5) rfl; clear hS; first | (go_simp; done) | (go_simp; with_reducible rfl))
        try simp only [Act.put, List.setIfInBounds_toArray, List.set_cons_zero, List.set_cons_succ]
        refine wpAnyH_done (by kernel_rfl) ?_ _
        rename World => X
        have HBq := Lib.hid hHeld.2.2
        obtain ⟨D, h1, h2, h3, h4, h5⟩ := GQ
        have HO := Lib.hid h1
        have H3 := Lib.hid h3
        have HP4 := Lib.hid (h4 b1 rfl)
        have HP5 := Lib.hid (h5 b2 rfl)
        clear hHeld h1 h2 h3 h4 h5
        go_wp2_with (at_range; refine wpList_range_own _ rfl _ _ rfl _ _ keyed_str under_q _ gQ 2 D rfl HO.out ?_; intro w0 hrg0 hg0 hs0)
        go_frame
        have HRG0 := Lib.hid hrg0
        have HB0 := Lib.hid (grown_below HBq.out hg0 (Nat.le_refl _) (fun k h => by cases h))
        clear hrg0 hg0 hs0
        go_loopw [12] (fun v wr => ∃ (left : Lit → Bool) (cnt : Nat), Hid (wr.ranges Tryz.prog 9 (plainElem Tryz.prog 4) gQ X.heap.size 2 D left cnt) ∧ Hid (∀ kl, left kl = true → Maps.has D kl = true) ∧ Hid (∀ kl, Maps.has D kl = true → left kl = false → ∀ zd, D.atKey kl zd = .lit (.bool true)) ∧ Hid (Below w.heap.size w wr)) (fun _ wr => wr.rangeLeft gQ X.heap.size)
        case atStart => exact ⟨_, _, HRG0, Lib.hid (fun kl h => h), Lib.hid (fun kl h h2 => by rw [h] at h2; cases h2), HB0⟩
        case round =>
          obtain ⟨left, cnt, HRG, HLf, HVl, HBr⟩ := hrel
          go_wp2_with (at_next; refine wpList_next_ranges _ rfl _ rfl 9 keyed_str (plainElem Tryz.prog 4) Value.string Value.bool inv_str (fun v y h => (inv_bool v y h).imp fun c h => h.1) gQ X.heap.size 2 D left cnt rfl HRG.out ?_ ?_; intro hc0 hl0; rotate_left; intro s c kl y w2 cnt2 hkl hlk hR hat hrg2 hlt hgr hsz hen; have hy := may_elem hR; rw [hy] at hat; have HAT := Lib.hid hat; have HLK := Lib.hid hlk; have HRG2 := Lib.hid hrg2; have HLT := Lib.hid hlt; have HB2 := Lib.hid (grown_below HBr.out hgr (Nat.le_refl _) (fun q hq => by injection hq with hq; have := HBq.out.size; omega)); clear hkl hlk hR hat hrg2 hlt hgr hsz hy; cases c)
          · have HR12 := Lib.hid (may_none H3.out HP4.out HP5.out (HLf.out _ HLK.out) HAT.out)
            go_ret
            exact ⟨by rw [HR12.out]; rfl, HB2.out⟩
          · have HLf2 := Lib.hid (may_left HLf.out (kl := kl))
            have HVl2 := Lib.hid (may_next HVl.out HAT.out)
            go_roundw
            case rel => exact ⟨_, _, HRG2, HLf2, HVl2, HB2⟩
            case measure => rw [HRG2.out.left_eq, HRG.out.left_eq]; exact HLT.out
          · have HR12 := Lib.hid (may_all HP4.out HP5.out HVl.out hl0)
            clear hc0 hl0
            go_ret
            exact ⟨by rw [HR12.out]; rfl, HBr.out⟩
      refine AllReadyH.cons (o := ⟨some 40, _, _, _, _, _⟩) rfl (fun K hK => ?_) ?_
      · skip
        go_simp
        refine Calls.mono (CI.out _ hHeld.2.2) ?_
        rintro e x3 ⟨rfl, hb1⟩
        replace GQ := GQ.new hb1
        refine hK.out _ _ ⟨hHeld.1.new hb1, hHeld.2.1.new hb1, below_trans hHeld.2.2 hb1 (Nat.le_refl _)⟩ (fun hHeld' => ?_)
        clear hK K hHeld hb1
        have hHeld := hHeld'
        clear hHeld'
        try simp only [Act.put, List.setIfInBounds_toArray, List.set_cons_zero, List.set_cons_succ]
        refine wpAnyH_ready (rs := [5, 20]) (by kernel_rfl) (by simp) ?_
        refine AllReadyH.cons (o := ⟨none, _, _, _, _, _⟩) rfl (fun K hK => ?_) ?_
        · skip
          obtain ⟨xq, hrun, hGQ, hgr⟩ := GQ.put1 (by unfold maxLen; omega) b1
          go_simp
          refine hK.out _ _ ⟨hHeld.1.grown hgr (by omega), hHeld.2.1.grown hgr (by omega), grown_below hHeld.2.2 hgr (Nat.le_refl _) (fun q hq => by injection hq with hq; omega)⟩ (fun hHeld' => ?_)
          clear hK K hHeld hrun hgr
          replace GQ := hGQ
          clear hGQ
          have hHeld := hHeld'
          clear hHeld'
          generalize xq = x4 at hHeld GQ ⊢
          try simp only [Act.put, List.setIfInBounds_toArray, List.set_cons_zero, List.set_cons_succ]
          refine wpAnyH_ready (rs := [20]) (by kernel_rfl) (by simp) ?_
          refine AllReadyH.cons (o := ⟨some 41, _, _, _, _, _⟩) rfl (fun K hK => ?_) AllReadyH.nil
          go_simp
          refine Calls.mono (CM.out _ hHeld.2.2) ?_
          rintro e x5 ⟨rfl, hb1⟩
          replace GQ := GQ.new hb1
          refine hK.out _ _ ⟨hHeld.1.new hb1, hHeld.2.1.new hb1, below_trans hHeld.2.2 hb1 (Nat.le_refl _)⟩ (fun hHeld' => ?_)
          clear hK K hHeld hb1
          have hHeld := hHeld'
          clear hHeld'
          try simp only [Act.put, List.setIfInBounds_toArray, List.set_cons_zero, List.set_cons_succ]
          refine wpAnyH_ready (rs := [21]) (by kernel_rfl) (by simp) ?_
          refine AllReadyH.cons (o := ⟨none, _, _, _, _, _⟩) rfl (fun K hK => ?_) AllReadyH.nil
          obtain ⟨xq, hrun, hGQ, hgr⟩ := GQ.put2 (by unfold maxLen; omega) b2
          go_simp
          refine hK.out _ _ ⟨hHeld.1.grown hgr (by omega), hHeld.2.1.grown hgr (by omega), grown_below hHeld.2.2 hgr (Nat.le_refl _) (fun q hq => by injection hq with hq; omega)⟩ (fun hHeld' => ?_)
          clear hK K hHeld hrun hgr
          replace GQ := hGQ
          clear hGQ
          have hHeld := hHeld'
          clear hHeld'
          generalize xq = x6 at hHeld GQ ⊢
          try simp only [Act.put, List.setIfInBounds_toArray, List.set_cons_zero, List.set_cons_succ]
          refine wpAnyH_take (i := 22) (oi := ⟨some 42, _, _, _, _, _⟩) (v := ?_) rfl (by kernel_rfl) (by kernel_rfl) (by kernel_rfl) (fun _ _ _ h => h) (Or.inl ⟨by kernel_rfl, ?_⟩) hHeld ?_
          rotate_left
          focus (intro W hS; have c0_0 := (hS.1).at_ (j := 0) rfl; have c0_1 := (hS.1).at_ (j := 1) rfl; have c0_2 := (hS.1).at_ (j := 2) rfl; have c0_3 := (hS.1).at_ (j := 3) rfl; have c0_4 := (hS.1).at_ (j := 4) rfl; have c0_5 := (hS.1).at_ (j := 5) rfl; have c0_6 := (hS.1).at_ (j := 6) rfl; have c0_7 := (hS.1).at_ (j := 7) rfl; have c1_0 := (hS.2.1).at_ (j := 0) rfl; have c1_1 := (hS.2.1).at_ (j := 1) rfl; have c1_2 := (hS.2.1).at_ (j := 2) rfl; have c1_3 := (hS.2.1).at_ (j := 3) rfl; have c1_4 := (hS.2.1).at_ (j := 4) rfl; have c1_5 := (hS.2.1).at_ (j := 5) rfl; clear hS; first | (go_simp; done) | (go_simp; with_reducible rfl))
          try simp only [Act.put, List.setIfInBounds_toArray, List.set_cons_zero, List.set_cons_succ]
          refine wpAnyH_take (i := 23) (oi := ⟨some 10, _, _, _, _, _⟩) (v := ?_) rfl (by kernel_rfl) (by kernel_rfl) (by kernel_rfl) (fun _ _ _ h => h) (Or.inl ⟨by kernel_rfl, ?_⟩) hHeld ?_
          rotate_left
          focus (intro W hS; have c0_0 := (hS.1).at_ (j := 0) rfl; have c0_1 := (hS.1).at_ (j := 1) rfl; have c0_2 := (hS.1).at_ (j := 2) rfl; have c0_3 := (hS.1).at_ (j := 3) rfl; have c0_4 := (hS.1).at_ (j := 4) rfl; have c0_5 := (hS.1).at_ (j := 5) rfl; have c0_6 := (hS.1).at_ (j := 6) rfl; have c0_7 := (hS.1).at_ (j := 7) rfl; have c1_0 := (hS.2.1).at_ (j := 0) rfl; have c1_1 := (hS.2.1).at_ (j := 1) rfl; have c1_2 := (hS.2.1).at_ (j := 2) rfl; have c1_3 := (hS.2.1).at_ (j := 3) rfl; have c1_4 := (hS.2.1).at_ (j := 4) rfl; have c1_5 := (hS.2.1).at_ (j := 5) rfl; clear hS; first | (go_simp; done) | (go_simp; with_reducible rfl))
          try simp only [Act.put, List.setIfInBounds_toArray, List.set_cons_zero, List.set_cons_succ]
          refine wpAnyH_done (by kernel_rfl) ?_ _
          rename World => X
          have HBq := Lib.hid hHeld.2.2
          obtain ⟨D, h1, h2, h3, h4, h5⟩ := GQ
          have HO := Lib.hid h1
          have H3 := Lib.hid h3
          have HP4 := Lib.hid (h4 b1 rfl)
          have HP5 := Lib.hid (h5 b2 rfl)
          clear hHeld h1 h2 h3 h4 h5
          go_wp2_with (at_range; refine wpList_range_own _ rfl _ _ rfl _ _ keyed_str under_q _ gQ 2 D rfl HO.out ?_; intro w0 hrg0 hg0 hs0)
          go_frame
          have HRG0 := Lib.hid hrg0
          have HB0 := Lib.hid (grown_below HBq.out hg0 (Nat.le_refl _) (fun k h => by cases h))
          clear hrg0 hg0 hs0
          go_loopw [12] (fun v wr => ∃ (left : Lit → Bool) (cnt : Nat), Hid (wr.ranges Tryz.prog 9 (plainElem Tryz.prog 4) gQ X.heap.size 2 D left cnt) ∧ Hid (∀ kl, left kl = true → Maps.has D kl = true) ∧ Hid (∀ kl, Maps.has D kl = true → left kl = false → ∀ zd, D.atKey kl zd = .lit (.bool true)) ∧ Hid (Below w.heap.size w wr)) (fun _ wr => wr.rangeLeft gQ X.heap.size)
          case atStart => exact ⟨_, _, HRG0, Lib.hid (fun kl h => h), Lib.hid (fun kl h h2 => by rw [h] at h2; cases h2), HB0⟩
          case round =>
            obtain ⟨left, cnt, HRG, HLf, HVl, HBr⟩ := hrel
            go_wp2_with (at_next; refine wpList_next_ranges _ rfl _ rfl 9 keyed_str (plainElem Tryz.prog 4) Value.string Value.bool inv_str (fun v y h => (inv_bool v y h).imp fun c h => h.1) gQ X.heap.size 2 D left cnt rfl HRG.out ?_ ?_; intro hc0 hl0; rotate_left; intro s c kl y w2 cnt2 hkl hlk hR hat hrg2 hlt hgr hsz hen; have hy := may_elem hR; rw [hy] at hat; have HAT := Lib.hid hat; have HLK := Lib.hid hlk; have HRG2 := Lib.hid hrg2; have HLT := Lib.hid hlt; have HB2 := Lib.hid (grown_below HBr.out hgr (Nat.le_refl _) (fun q hq => by injection hq with hq; have := HBq.out.size; omega)); clear hkl hlk hR hat hrg2 hlt hgr hsz hy; cases c)
            · have HR12 := Lib.hid (may_none H3.out HP4.out HP5.out (HLf.out _ HLK.out) HAT.out)
              go_ret
              exact ⟨by rw [HR12.out]; rfl, HB2.out⟩
            · have HLf2 := Lib.hid (may_left HLf.out (kl := kl))
              have HVl2 := Lib.hid (may_next HVl.out HAT.out)
              go_roundw
              case rel => exact ⟨_, _, HRG2, HLf2, HVl2, HB2⟩
              case measure => rw [HRG2.out.left_eq, HRG.out.left_eq]; exact HLT.out
            · have HR12 := Lib.hid (may_all HP4.out HP5.out HVl.out hl0)
              clear hc0 hl0
              go_ret
              exact ⟨by rw [HR12.out]; rfl, HBr.out⟩
        refine AllReadyH.cons (o := ⟨some 41, _, _, _, _, _⟩) rfl (fun K hK => ?_) ?_
        · skip
          go_simp
          refine Calls.mono (CM.out _ hHeld.2.2) ?_
          rintro e x4 ⟨rfl, hb1⟩
          replace GQ := GQ.new hb1
          refine hK.out _ _ ⟨hHeld.1.new hb1, hHeld.2.1.new hb1, below_trans hHeld.2.2 hb1 (Nat.le_refl _)⟩ (fun hHeld' => ?_)
          clear hK K hHeld hb1
          have hHeld := hHeld'
          clear hHeld'
          try simp only [Act.put, List.setIfInBounds_toArray, List.set_cons_zero, List.set_cons_succ]
          refine wpAnyH_ready (rs := [5, 21]) (by kernel_rfl) (by simp) ?_
          refine AllReadyH.cons (o := ⟨none, _, _, _, _, _⟩) rfl (fun K hK => ?_) ?_
          · skip
            obtain ⟨xq, hrun, hGQ, hgr⟩ := GQ.put1 (by unfold maxLen; omega) b1
            go_simp
            refine hK.out _ _ ⟨hHeld.1.grown hgr (by omega), hHeld.2.1.grown hgr (by omega), grown_below hHeld.2.2 hgr (Nat.le_refl _) (fun q hq => by injection hq with hq; omega)⟩ (fun hHeld' => ?_)
            clear hK K hHeld hrun hgr
            replace GQ := hGQ
            clear hGQ
            have hHeld := hHeld'
            clear hHeld'
            generalize xq = x5 at hHeld GQ ⊢
            try simp only [Act.put, List.setIfInBounds_toArray, List.set_cons_zero, List.set_cons_succ]
            refine wpAnyH_ready (rs := [21]) (by kernel_rfl) (by simp) ?_
            refine AllReadyH.cons (o := ⟨none, _, _, _, _, _⟩) rfl (fun K hK => ?_) AllReadyH.nil
            obtain ⟨xq, hrun, hGQ, hgr⟩ := GQ.put2 (by unfold maxLen; omega) b2
            go_simp
            refine hK.out _ _ ⟨hHeld.1.grown hgr (by omega), hHeld.2.1.grown hgr (by omega), grown_below hHeld.2.2 hgr (Nat.le_refl _) (fun q hq => by injection hq with hq; omega)⟩ (fun hHeld' => ?_)
            clear hK K hHeld hrun hgr
            replace GQ := hGQ
            clear hGQ
            have hHeld := hHeld'
            clear hHeld'
            generalize xq = x6 at hHeld GQ ⊢
            try simp only [Act.put, List.setIfInBounds_toArray, List.set_cons_zero, List.set_cons_succ]
            refine wpAnyH_take (i := 22) (oi := ⟨some 42, _, _, _, _, _⟩) (v := ?_) rfl (by kernel_rfl) (by kernel_rfl) (by kernel_rfl) (fun _ _ _ h => h) (Or.inl ⟨by kernel_rfl, ?_⟩) hHeld ?_
            rotate_left
            focus (intro W hS; have c0_0 := (hS.1).at_ (j := 0) rfl; have c0_1 := (hS.1).at_ (j := 1) rfl; have c0_2 := (hS.1).at_ (j := 2) rfl; have c0_3 := (hS.1).at_ (j := 3) rfl; have c0_4 := (hS.1).at_ (j := 4) rfl; have c0_5 := (hS.1).at_ (j := 5) rfl; have c0_6 := (hS.1).at_ (j := 6) rfl; have c0_7 := (hS.1).at_ (j := 7) rfl; have c1_0 := (hS.2.1).at_ (j := 0) rfl; have c1_1 := (hS.2.1).at_ (j := 1) rfl; have c1_2 := (hS.2.1).at_ (j := 2) rfl; have c1_3 := (hS.2.1).at_ (j := 3) rfl; have c1_4 := (hS.2.1).at_ (j := 4) rfl; have c1_5 := (hS.2.1).at_ (j := 5) rfl; clear hS; first | (go_simp; done) | (go_simp; with_reducible rfl))
            try simp only [Act.put, List.setIfInBounds_toArray, List.set_cons_zero, List.set_cons_succ]
            refine wpAnyH_take (i := 23) (oi := ⟨some 10, _, _, _, _, _⟩) (v := ?_) rfl (by kernel_rfl) (by kernel_rfl) (by kernel_rfl) (fun _ _ _ h => h) (Or.inl ⟨by kernel_rfl, ?_⟩) hHeld ?_
            rotate_left
            focus (intro W hS; have c0_0 := (hS.1).at_ (j := 0) rfl; have c0_1 := (hS.1).at_ (j := 1) rfl; have c0_2 := (hS.1).at_ (j := 2) rfl; have c0_3 := (hS.1).at_ (j := 3) rfl; have c0_4 := (hS.1).at_ (j := 4) rfl; have c0_5 := (hS.1).at_ (j := 5) rfl; have c0_6 := (hS.1).at_ (j := 6) rfl; have c0_7 := (hS.1).at_ (j := 7) rfl; have c1_0 := (hS.2.1).at_ (j := 0) rfl; have c1_1 := (hS.2.1).at_ (j := 1) rfl; have c1_2 := (hS.2.1).at_ (j := 2) rfl; have c1_3 := (hS.2.1).at_ (j := 3) rfl; have c1_4 := (hS.2.1).at_ (j := 4) rfl; have c1_5 := (hS.2.1).at_ (j := 5) rfl; clear hS; first | (go_simp; done) | (go_simp; with_reducible rfl))
            try simp only [Act.put, List.setIfInBounds_toArray, List.set_cons_zero, List.set_cons_succ]
            refine wpAnyH_done (by kernel_rfl) ?_ _
            rename World => X
            have HBq := Lib.hid hHeld.2.2
            obtain ⟨D, h1, h2, h3, h4, h5⟩ := GQ
            have HO := Lib.hid h1
            have H3 := Lib.hid h3
            have HP4 := Lib.hid (h4 b1 rfl)
            have HP5 := Lib.hid (h5 b2 rfl)
            clear hHeld h1 h2 h3 h4 h5
            go_wp2_with (at_range; refine wpList_range_own _ rfl _ _ rfl _ _ keyed_str under_q _ gQ 2 D rfl HO.out ?_; intro w0 hrg0 hg0 hs0)
            go_frame
            have HRG0 := Lib.hid hrg0
            have HB0 := Lib.hid (grown_below HBq.out hg0 (Nat.le_refl _) (fun k h => by cases h))
            clear hrg0 hg0 hs0
            go_loopw [12] (fun v wr => ∃ (left : Lit → Bool) (cnt : Nat), Hid (wr.ranges Tryz.prog 9 (plainElem Tryz.prog 4) gQ X.heap.size 2 D left cnt) ∧ Hid (∀ kl, left kl = true → Maps.has D kl = true) ∧ Hid (∀ kl, Maps.has D kl = true → left kl = false → ∀ zd, D.atKey kl zd = .lit (.bool true)) ∧ Hid (Below w.heap.size w wr)) (fun _ wr => wr.rangeLeft gQ X.heap.size)
            case atStart => exact ⟨_, _, HRG0, Lib.hid (fun kl h => h), Lib.hid (fun kl h h2 => by rw [h] at h2; cases h2), HB0⟩
            case round =>
              obtain ⟨left, cnt, HRG, HLf, HVl, HBr⟩ := hrel
              go_wp2_with (at_next; refine wpList_next_ranges _ rfl _ rfl 9 keyed_str (plainElem Tryz.prog 4) Value.string Value.bool inv_str (fun v y h => (inv_bool v y h).imp fun c h => h.1) gQ X.heap.size 2 D left cnt rfl HRG.out ?_ ?_; intro hc0 hl0; rotate_left; intro s c kl y w2 cnt2 hkl hlk hR hat hrg2 hlt hgr hsz hen; have hy := may_elem hR; rw [hy] at hat; have HAT := Lib.hid hat; have HLK := Lib.hid hlk; have HRG2 := Lib.hid hrg2; have HLT := Lib.hid hlt; have HB2 := Lib.hid (grown_below HBr.out hgr (Nat.le_refl _) (fun q hq => by injection hq with hq; have := HBq.out.size; omega)); clear hkl hlk hR hat hrg2 hlt hgr hsz hy; cases c)
              · have HR12 := Lib.hid (may_none H3.out HP4.out HP5.out (HLf.out _ HLK.out) HAT.out)
                go_ret
                exact ⟨by rw [HR12.out]; rfl, HB2.out⟩
              · have HLf2 := Lib.hid (may_left HLf.out (kl := kl))
                have HVl2 := Lib.hid (may_next HVl.out HAT.out)
                go_roundw
                case rel => exact ⟨_, _, HRG2, HLf2, HVl2, HB2⟩
                case measure => rw [HRG2.out.left_eq, HRG.out.left_eq]; exact HLT.out
              · have HR12 := Lib.hid (may_all HP4.out HP5.out HVl.out hl0)
                clear hc0 hl0
                go_ret
                exact ⟨by rw [HR12.out]; rfl, HBr.out⟩
          refine AllReadyH.cons (o := ⟨none, _, _, _, _, _⟩) rfl (fun K hK => ?_) ?_
          · skip
            obtain ⟨xq, hrun, hGQ, hgr⟩ := GQ.put2 (by unfold maxLen; omega) b2
            go_simp
            refine hK.out _ _ ⟨hHeld.1.grown hgr (by omega), hHeld.2.1.grown hgr (by omega), grown_below hHeld.2.2 hgr (Nat.le_refl _) (fun q hq => by injection hq with hq; omega)⟩ (fun hHeld' => ?_)
            clear hK K hHeld hrun hgr
            replace GQ := hGQ
            clear hGQ
            have hHeld := hHeld'
            clear hHeld'
            generalize xq = x5 at hHeld GQ ⊢
            try simp only [Act.put, List.setIfInBounds_toArray, List.set_cons_zero, List.set_cons_succ]
            refine wpAnyH_ready (rs := [5]) (by kernel_rfl) (by simp) ?_
            refine AllReadyH.cons (o := ⟨none, _, _, _, _, _⟩) rfl (fun K hK => ?_) AllReadyH.nil
            obtain ⟨xq, hrun, hGQ, hgr⟩ := GQ.put1 (by unfold maxLen; omega) b1
            go_simp
            refine hK.out _ _ ⟨hHeld.1.grown hgr (by omega), hHeld.2.1.grown hgr (by omega), grown_below hHeld.2.2 hgr (Nat.le_refl _) (fun q hq => by injection hq with hq; omega)⟩ (fun hHeld' => ?_)
            clear hK K hHeld hrun hgr
            replace GQ := hGQ
            clear hGQ
            have hHeld := hHeld'
            clear hHeld'
            generalize xq = x6 at hHeld GQ ⊢
            try simp only [Act.put, List.setIfInBounds_toArray, List.set_cons_zero, List.set_cons_succ]
            refine wpAnyH_take (i := 22) (oi := ⟨some 42, _, _, _, _, _⟩) (v := ?_) rfl (by kernel_rfl) (by kernel_rfl) (by kernel_rfl) (fun _ _ _ h => h) (Or.inl ⟨by kernel_rfl, ?_⟩) hHeld ?_
            rotate_left
            focus (intro W hS; have c0_0 := (hS.1).at_ (j := 0) rfl; have c0_1 := (hS.1).at_ (j := 1) rfl; have c0_2 := (hS.1).at_ (j := 2) rfl; have c0_3 := (hS.1).at_ (j := 3) rfl; have c0_4 := (hS.1).at_ (j := 4) rfl; have c0_5 := (hS.1).at_ (j := 5) rfl; have c0_6 := (hS.1).at_ (j := 6) rfl; have c0_7 := (hS.1).at_ (j := 7) rfl; have c1_0 := (hS.2.1).at_ (j := 0) rfl; have c1_1 := (hS.2.1).at_ (j := 1) rfl; have c1_2 := (hS.2.1).at_ (j := 2) rfl; have c1_3 := (hS.2.1).at_ (j := 3) rfl; have c1_4 := (hS.2.1).at_ (j := 4) rfl; have c1_5 := (hS.2.1).at_ (j := 5) rfl; clear hS; first | (go_simp; done) | (go_simp; with_reducible rfl))
            try simp only [Act.put, List.setIfInBounds_toArray, List.set_cons_zero, List.set_cons_succ]
            refine wpAnyH_take (i := 23) (oi := ⟨some 10, _, _, _, _, _⟩) (v := ?_) rfl (by kernel_rfl) (by kernel_rfl) (by kernel_rfl) (fun _ _ _ h => h) (Or.inl ⟨by kernel_rfl, ?_⟩) hHeld ?_
            rotate_left
            focus (intro W hS; have c0_0 := (hS.1).at_ (j := 0) rfl; have c0_1 := (hS.1).at_ (j := 1) rfl; have c0_2 := (hS.1).at_ (j := 2) rfl; have c0_3 := (hS.1).at_ (j := 3) rfl; have c0_4 := (hS.1).at_ (j := 4) rfl; have c0_5 := (hS.1).at_ (j := 5) rfl; have c0_6 := (hS.1).at_ (j := 6) rfl; have c0_7 := (hS.1).at_ (j := 7) rfl; have c1_0 := (hS.2.1).at_ (j := 0) rfl; have c1_1 := (hS.2.1).at_ (j := 1) rfl; have c1_2 := (hS.2.1).at_ (j := 2) rfl; have c1_3 := (hS.2.1).at_ (j := 3) rfl; have c1_4 := (hS.2.1).at_ (j := 4) rfl; have c1_5 := (hS.2.1).at_ (j := 5) rfl; clear hS; first | (go_simp; done) | (go_simp; with_reducible rfl))
            try simp only [Act.put, List.setIfInBounds_toArray, List.set_cons_zero, List.set_cons_succ]
            refine wpAnyH_done (by kernel_rfl) ?_ _
            rename World => X
            have HBq := Lib.hid hHeld.2.2
            obtain ⟨D, h1, h2, h3, h4, h5⟩ := GQ
            have HO := Lib.hid h1
            have H3 := Lib.hid h3
            have HP4 := Lib.hid (h4 b1 rfl)
            have HP5 := Lib.hid (h5 b2 rfl)
            clear hHeld h1 h2 h3 h4 h5
            go_wp2_with (at_range; refine wpList_range_own _ rfl _ _ rfl _ _ keyed_str under_q _ gQ 2 D rfl HO.out ?_; intro w0 hrg0 hg0 hs0)
            go_frame
            have HRG0 := Lib.hid hrg0
            have HB0 := Lib.hid (grown_below HBq.out hg0 (Nat.le_refl _) (fun k h => by cases h))
            clear hrg0 hg0 hs0
            go_loopw [12] (fun v wr => ∃ (left : Lit → Bool) (cnt : Nat), Hid (wr.ranges Tryz.prog 9 (plainElem Tryz.prog 4) gQ X.heap.size 2 D left cnt) ∧ Hid (∀ kl, left kl = true → Maps.has D kl = true) ∧ Hid (∀ kl, Maps.has D kl = true → left kl = false → ∀ zd, D.atKey kl zd = .lit (.bool true)) ∧ Hid (Below w.heap.size w wr)) (fun _ wr => wr.rangeLeft gQ X.heap.size)
            case atStart => exact ⟨_, _, HRG0, Lib.hid (fun kl h => h), Lib.hid (fun kl h h2 => by rw [h] at h2; cases h2), HB0⟩
            case round =>
              obtain ⟨left, cnt, HRG, HLf, HVl, HBr⟩ := hrel
              go_wp2_with (at_next; refine wpList_next_ranges _ rfl _ rfl 9 keyed_str (plainElem Tryz.prog 4) Value.string Value.bool inv_str (fun v y h => (inv_bool v y h).imp fun c h => h.1) gQ X.heap.size 2 D left cnt rfl HRG.out ?_ ?_; intro hc0 hl0; rotate_left; intro s c kl y w2 cnt2 hkl hlk hR hat hrg2 hlt hgr hsz hen; have hy := may_elem hR; rw [hy] at hat; have HAT := Lib.hid hat; have HLK := Lib.hid hlk; have HRG2 := Lib.hid hrg2; have HLT := Lib.hid hlt; have HB2 := Lib.hid (grown_below HBr.out hgr (Nat.le_refl _) (fun q hq => by injection hq with hq; have := HBq.out.size; omega)); clear hkl hlk hR hat hrg2 hlt hgr hsz hy; cases c)
              · have HR12 := Lib.hid (may_none H3.out HP4.out HP5.out (HLf.out _ HLK.out) HAT.out)
                go_ret
                exact ⟨by rw [HR12.out]; rfl, HB2.out⟩
              · have HLf2 := Lib.hid (may_left HLf.out (kl := kl))
                have HVl2 := Lib.hid (may_next HVl.out HAT.out)
                go_roundw
                case rel => exact ⟨_, _, HRG2, HLf2, HVl2, HB2⟩
                case measure => rw [HRG2.out.left_eq, HRG.out.left_eq]; exact HLT.out
              · have HR12 := Lib.hid (may_all HP4.out HP5.out HVl.out hl0)
                clear hc0 hl0
                go_ret
                exact ⟨by rw [HR12.out]; rfl, HBr.out⟩
          exact AllReadyH.nil
        exact AllReadyH.nil
      exact AllReadyH.nil
    refine AllReadyH.cons (o := ⟨some 25, _, _, _, _, _⟩) rfl (fun K hK => ?_) ?_
    · skip
      go_simp
      refine Calls.mono (CP.out _ hHeld.2.2) ?_
      rintro e x1 ⟨rfl, hb1⟩
      refine hK.out _ _ ⟨hHeld.1.new hb1, hHeld.2.1.new hb1, below_trans hHeld.2.2 hb1 (Nat.le_refl _)⟩ (fun hHeld' => ?_)
      clear hK K hHeld hb1
      have hHeld := hHeld'
      clear hHeld'
      try simp only [Act.put, List.setIfInBounds_toArray, List.set_cons_zero, List.set_cons_succ]
      refine wpAnyH_take (i := 4) (oi := ⟨some 26, _, _, _, _, _⟩) (v := ?_) rfl (by kernel_rfl) (by kernel_rfl) (by kernel_rfl) (fun _ _ _ h => h) (Or.inl ⟨by kernel_rfl, ?_⟩) hHeld ?_
      rotate_left
      focus (intro W hS; have c0_0 := (hS.1).at_ (j := 0) rfl; have c0_1 := (hS.1).at_ (j := 1) rfl; have c0_2 := (hS.1).at_ (j := 2) rfl; have c0_3 := (hS.1).at_ (j := 3) rfl; have c0_4 := (hS.1).at_ (j := 4) rfl; have c0_5 := (hS.1).at_ (j := 5) rfl; have c0_6 := (hS.1).at_ (j := 6) rfl; have c0_7 := (hS.1).at_ (j := 7) rfl; have c1_0 := (hS.2.1).at_ (j := 0) rfl; have c1_1 := (hS.2.1).at_ (j := 1) rfl; have c1_2 := (hS.2.1).at_ (j := 2) rfl; have c1_3 := (hS.2.1).at_ (j := 3) rfl; have c1_4 := (hS.2.1).at_ (j := 4) rfl; have c1_5 := (hS.2.1).at_ (j := 5) rfl; clear hS; first | (go_simp; done) | (go_simp; with_reducible rfl))
      try simp only [Act.put, List.setIfInBounds_toArray, List.set_cons_zero, List.set_cons_succ]
      refine wpAnyH_ready (rs := [0, 19]) (by kernel_rfl) (by simp) ?_
      refine AllReadyH.cons (o := ⟨some 22, _, _, _, _, _⟩) rfl (fun K hK => ?_) ?_
      · skip
        go_simp
        have GQ := mapQ_made x1
        have hb1 := (Below.refl (x1).heap.size x1).alloc (Nat.le_refl _) (.map #[] 0)
        have M0Q : w.heap.size < (x1).heap.size := hHeld.1.lt
        have M1Q : w1.heap.size < (x1).heap.size := hHeld.2.1.lt
        generalize (x1).alloc (.map #[] 0) = xm at hb1 GQ ⊢
        generalize hg : (x1).heap.size = gQ at GQ M0Q M1Q ⊢
        have hb2 : Below (x1).heap.size x1 xm := by rw [hg]; rw [hg] at hb1; exact hb1
        clear hg hb1
        refine hK.out _ _ ⟨hHeld.1.new hb2, hHeld.2.1.new hb2, below_trans hHeld.2.2 hb2 (Nat.le_refl _)⟩ (fun hHeld' => ?_)
        clear hK K hHeld hb2
        have hHeld := hHeld'
        clear hHeld'
        generalize xm = x2 at hHeld GQ ⊢
        try simp only [Act.put, List.setIfInBounds_toArray, List.set_cons_zero, List.set_cons_succ]
        refine wpAnyH_ready (rs := [5, 19]) (by kernel_rfl) (by simp) ?_
        refine AllReadyH.cons (o := ⟨none, _, _, _, _, _⟩) rfl (fun K hK => ?_) ?_
        · skip
          obtain ⟨xq, hrun, hGQ, hgr⟩ := GQ.put1 (by unfold maxLen; omega) b1
          go_simp
          refine hK.out _ _ ⟨hHeld.1.grown hgr (by omega), hHeld.2.1.grown hgr (by omega), grown_below hHeld.2.2 hgr (Nat.le_refl _) (fun q hq => by injection hq with hq; omega)⟩ (fun hHeld' => ?_)
          clear hK K hHeld hrun hgr
          replace GQ := hGQ
          clear hGQ
          have hHeld := hHeld'
          clear hHeld'
          generalize xq = x3 at hHeld GQ ⊢
          try simp only [Act.put, List.setIfInBounds_toArray, List.set_cons_zero, List.set_cons_succ]
          refine wpAnyH_ready (rs := [19]) (by kernel_rfl) (by simp) ?_
          refine AllReadyH.cons (o := ⟨some 40, _, _, _, _, _⟩) rfl (fun K hK => ?_) AllReadyH.nil
          go_simp
          refine Calls.mono (CI.out _ hHeld.2.2) ?_
          rintro e x4 ⟨rfl, hb1⟩
          replace GQ := GQ.new hb1
          refine hK.out _ _ ⟨hHeld.1.new hb1, hHeld.2.1.new hb1, below_trans hHeld.2.2 hb1 (Nat.le_refl _)⟩ (fun hHeld' => ?_)
          clear hK K hHeld hb1
          have hHeld := hHeld'
          clear hHeld'
          try simp only [Act.put, List.setIfInBounds_toArray, List.set_cons_zero, List.set_cons_succ]
          refine wpAnyH_ready (rs := [20]) (by kernel_rfl) (by simp) ?_
          refine AllReadyH.cons (o := ⟨some 41, _, _, _, _, _⟩) rfl (fun K hK => ?_) AllReadyH.nil
          go_simp
          refine Calls.mono (CM.out _ hHeld.2.2) ?_
          rintro e x5 ⟨rfl, hb1⟩
          replace GQ := GQ.new hb1
          refine hK.out _ _ ⟨hHeld.1.new hb1, hHeld.2.1.new hb1, below_trans hHeld.2.2 hb1 (Nat.le_refl _)⟩ (fun hHeld' => ?_)
          clear hK K hHeld hb1
          have hHeld := hHeld'
          clear hHeld'
          try simp only [Act.put, List.setIfInBounds_toArray, List.set_cons_zero, List.set_cons_succ]
          refine wpAnyH_ready (rs := [21]) (by kernel_rfl) (by simp) ?_
          refine AllReadyH.cons (o := ⟨none, _, _, _, _, _⟩) rfl (fun K hK => ?_) AllReadyH.nil
          obtain ⟨xq, hrun, hGQ, hgr⟩ := GQ.put2 (by unfold maxLen; omega) b2
          go_simp
          refine hK.out _ _ ⟨hHeld.1.grown hgr (by omega), hHeld.2.1.grown hgr (by omega), grown_below hHeld.2.2 hgr (Nat.le_refl _) (fun q hq => by injection hq with hq; omega)⟩ (fun hHeld' => ?_)
          clear hK K hHeld hrun hgr
          replace GQ := hGQ
          clear hGQ
          have hHeld := hHeld'
          clear hHeld'
          generalize xq = x6 at hHeld GQ ⊢
          try simp only [Act.put, List.setIfInBounds_toArray, List.set_cons_zero, List.set_cons_succ]
          refine wpAnyH_take (i := 22) (oi := ⟨some 42, _, _, _, _, _⟩) (v := ?_) rfl (by kernel_rfl) (by kernel_rfl) (by kernel_rfl) (fun _ _ _ h => h) (Or.inl ⟨by kernel_rfl, ?_⟩) hHeld ?_
          rotate_left
          focus (intro W hS; have c0_0 := (hS.1).at_ (j := 0) rfl; have c0_1 := (hS.1).at_ (j := 1) rfl; have c0_2 := (hS.1).at_ (j := 2) rfl; have c0_3 := (hS.1).at_ (j := 3) rfl; have c0_4 := (hS.1).at_ (j := 4) rfl; have c0_5 := (hS.1).at_ (j := 5) rfl; have c0_6 := (hS.1).at_ (j := 6) rfl; have c0_7 := (hS.1).at_ (j := 7) rfl; have c1_0 := (hS.2.1).at_ (j := 0) rfl; have c1_1 := (hS.2.1).at_ (j := 1) rfl; have c1_2 := (hS.2.1).at_ (j := 2) rfl; have c1_3 := (hS.2.1).at_ (j := 3) rfl; have c1_4 := (hS.2.1).at_ (j := 4) rfl; have c1_5 := (hS.2.1).at_ (j := 5) rfl; clear hS; first | (go_simp; done) | (go_simp; with_reducible rfl))
          try simp only [Act.put, List.setIfInBounds_toArray, List.set_cons_zero, List.set_cons_succ]
          refine wpAnyH_take (i := 23) (oi := ⟨some 10, _, _, _, _, _⟩) (v := ?_) rfl (by kernel_rfl) (by kernel_rfl) (by kernel_rfl) (fun _ _ _ h => h) (Or.inl ⟨by kernel_rfl, ?_⟩) hHeld ?_
          rotate_left
          focus (intro W hS; have c0_0 := (hS.1).at_ (j := 0) rfl; have c0_1 := (hS.1).at_ (j := 1) rfl; have c0_2 := (hS.1).at_ (j := 2) rfl; have c0_3 := (hS.1).at_ (j := 3) rfl; have c0_4 := (hS.1).at_ (j := 4) rfl; have c0_5 := (hS.1).at_ (j := 5) rfl; have c0_6 := (hS.1).at_ (j := 6) rfl; have c0_7 := (hS.1).at_ (j := 7) rfl; have c1_0 := (hS.2.1).at_ (j := 0) rfl; have c1_1 := (hS.2.1).at_ (j := 1) rfl; have c1_2 := (hS.2.1).at_ (j := 2) rfl; have c1_3 := (hS.2.1).at_ (j := 3) rfl; have c1_4 := (hS.2.1).at_ (j := 4) rfl; have c1_5 := (hS.2.1).at_ (j := 5) rfl; clear hS; first | (go_simp; done) | (go_simp; with_reducible rfl))
          try simp only [Act.put, List.setIfInBounds_toArray, List.set_cons_zero, List.set_cons_succ]
          refine wpAnyH_done (by kernel_rfl) ?_ _
          rename World => X
          have HBq := Lib.hid hHeld.2.2
          obtain ⟨D, h1, h2, h3, h4, h5⟩ := GQ
          have HO := Lib.hid h1
          have H3 := Lib.hid h3
          have HP4 := Lib.hid (h4 b1 rfl)
          have HP5 := Lib.hid (h5 b2 rfl)
          clear hHeld h1 h2 h3 h4 h5
          go_wp2_with (at_range; refine wpList_range_own _ rfl _ _ rfl _ _ keyed_str under_q _ gQ 2 D rfl HO.out ?_; intro w0 hrg0 hg0 hs0)
          go_frame
          have HRG0 := Lib.hid hrg0
          have HB0 := Lib.hid (grown_below HBq.out hg0 (Nat.le_refl _) (fun k h => by cases h))
          clear hrg0 hg0 hs0
          go_loopw [12] (fun v wr => ∃ (left : Lit → Bool) (cnt : Nat), Hid (wr.ranges Tryz.prog 9 (plainElem Tryz.prog 4) gQ X.heap.size 2 D left cnt) ∧ Hid (∀ kl, left kl = true → Maps.has D kl = true) ∧ Hid (∀ kl, Maps.has D kl = true → left kl = false → ∀ zd, D.atKey kl zd = .lit (.bool true)) ∧ Hid (Below w.heap.size w wr)) (fun _ wr => wr.rangeLeft gQ X.heap.size)
          case atStart => exact ⟨_, _, HRG0, Lib.hid (fun kl h => h), Lib.hid (fun kl h h2 => by rw [h] at h2; cases h2), HB0⟩
          case round =>
            obtain ⟨left, cnt, HRG, HLf, HVl, HBr⟩ := hrel
            go_wp2_with (at_next; refine wpList_next_ranges _ rfl _ rfl 9 keyed_str (plainElem Tryz.prog 4) Value.string Value.bool inv_str (fun v y h => (inv_bool v y h).imp fun c h => h.1) gQ X.heap.size 2 D left cnt rfl HRG.out ?_ ?_; intro hc0 hl0; rotate_left; intro s c kl y w2 cnt2 hkl hlk hR hat hrg2 hlt hgr hsz hen; have hy := may_elem hR; rw [hy] at hat; have HAT := Lib.hid hat; have HLK := Lib.hid hlk; have HRG2 := Lib.hid hrg2; have HLT := Lib.hid hlt; have HB2 := Lib.hid (grown_below HBr.out hgr (Nat.le_refl _) (fun q hq => by injection hq with hq; have := HBq.out.size; omega)); clear hkl hlk hR hat hrg2 hlt hgr hsz hy; cases c)
            · have HR12 := Lib.hid (may_none H3.out HP4.out HP5.out (HLf.out _ HLK.out) HAT.out)
              go_ret
              exact ⟨by rw [HR12.out]; rfl, HB2.out⟩
            · have HLf2 := Lib.hid (may_left HLf.out (kl := kl))
              have HVl2 := Lib.hid (may_next HVl.out HAT.out)
              go_roundw
              case rel => exact ⟨_, _, HRG2, HLf2, HVl2, HB2⟩
              case measure => rw [HRG2.out.left_eq, HRG.out.left_eq]; exact HLT.out
            · have HR12 := Lib.hid (may_all HP4.out HP5.out HVl.out hl0)
              clear hc0 hl0
              go_ret
              exact ⟨by rw [HR12.out]; rfl, HBr.out⟩
        refine AllReadyH.cons (o := ⟨some 40, _, _, _, _, _⟩) rfl (fun K hK => ?_) ?_
        · skip
          go_simp
          refine Calls.mono (CI.out _ hHeld.2.2) ?_
          rintro e x3 ⟨rfl, hb1⟩
          replace GQ := GQ.new hb1
          refine hK.out _ _ ⟨hHeld.1.new hb1, hHeld.2.1.new hb1, below_trans hHeld.2.2 hb1 (Nat.le_refl _)⟩ (fun hHeld' => ?_)
          clear hK K hHeld hb1
          have hHeld := hHeld'
          clear hHeld'
          try simp only [Act.put, List.setIfInBounds_toArray, List.set_cons_zero, List.set_cons_succ]
          refine wpAnyH_ready (rs := [5, 20]) (by kernel_rfl) (by simp) ?_
          refine AllReadyH.cons (o := ⟨none, _, _, _, _, _⟩) rfl (fun K hK => ?_) ?_
          · skip
            obtain ⟨xq, hrun, hGQ, hgr⟩ := GQ.put1 (by unfold maxLen; omega) b1
            go_simp
            refine hK.out _ _ ⟨hHeld.1.grown hgr (by omega), hHeld.2.1.grown hgr (by omega), grown_below hHeld.2.2 hgr (Nat.le_refl _) (fun q hq => by injection hq with hq; omega)⟩ (fun hHeld' => ?_)
            clear hK K hHeld hrun hgr
            replace GQ := hGQ
            clear hGQ
            have hHeld := hHeld'
            clear hHeld'
            generalize xq = x4 at hHeld GQ ⊢
            try simp only [Act.put, List.setIfInBounds_toArray, List.set_cons_zero, List.set_cons_succ]
            refine wpAnyH_ready (rs := [20]) (by kernel_rfl) (by simp) ?_
            refine AllReadyH.cons (o := ⟨some 41, _, _, _, _, _⟩) rfl (fun K hK => ?_) AllReadyH.nil
            go_simp
            refine Calls.mono (CM.out _ hHeld.2.2) ?_
            rintro e x5 ⟨rfl, hb1⟩
            replace GQ := GQ.new hb1
            refine hK.out _ _ ⟨hHeld.1.new hb1, hHeld.2.1.new hb1, below_trans hHeld.2.2 hb1 (Nat.le_refl _)⟩ (fun hHeld' => ?_)
            clear hK K hHeld hb1
            have hHeld := hHeld'
            clear hHeld'
            try simp only [Act.put, List.setIfInBounds_toArray, List.set_cons_zero, List.set_cons_succ]
            refine wpAnyH_ready (rs := [21]) (by kernel_rfl) (by simp) ?_
            refine AllReadyH.cons (o := ⟨none, _, _, _, _, _⟩) rfl (fun K hK => ?_) AllReadyH.nil
            obtain ⟨xq, hrun, hGQ, hgr⟩ := GQ.put2 (by unfold maxLen; omega) b2
            go_simp
            refine hK.out _ _ ⟨hHeld.1.grown hgr (by omega), hHeld.2.1.grown hgr (by omega), grown_below hHeld.2.2 hgr (Nat.le_refl _) (fun q hq => by injection hq with hq; omega)⟩ (fun hHeld' => ?_)
            clear hK K hHeld hrun hgr
            replace GQ := hGQ
            clear hGQ
            have hHeld := hHeld'
            clear hHeld'
            generalize xq = x6 at hHeld GQ ⊢
            try simp only [Act.put, List.setIfInBounds_toArray, List.set_cons_zero, List.set_cons_succ]
            refine wpAnyH_take (i := 22) (oi := ⟨some 42, _, _, _, _, _⟩) (v := ?_) rfl (by kernel_rfl) (by kernel_rfl) (by kernel_rfl) (fun _ _ _ h => h) (Or.inl ⟨by kernel_rfl, ?_⟩) hHeld ?_
            rotate_left
            focus (intro W hS; have c0_0 := (hS.1).at_ (j := 0) rfl; have c0_1 := (hS.1).at_ (j := 1) rfl; have c0_2 := (hS.1).at_ (j := 2) rfl; have c0_3 := (hS.1).at_ (j := 3) rfl; have c0_4 := (hS.1).at_ (j := 4) rfl; have c0_5 := (hS.1).at_ (j := 5) rfl; have c0_6 := (hS.1).at_ (j := 6) rfl; have c0_7 := (hS.1).at_ (j := 7) rfl; have c1_0 := (hS.2.1).at_ (j := 0) rfl; have c1_1 := (hS.2.1).at_ (j := 1) rfl; have c1_2 := (hS.2.1).at_ (j := 2) rfl; have c1_3 := (hS.2.1).at_ (j := 3) rfl; have c1_4 := (hS.2.1).at_ (j := 4) rfl; have c1_5 := (hS.2.1).at_ (j := 5) rfl; clear hS; first | (go_simp; done) | (go_simp; with_reducible rfl))
            try simp only [Act.put, List.setIfInBounds_toArray, List.set_cons_zero, List.set_cons_succ]
            refine wpAnyH_take (i := 23) (oi := ⟨some 10, _, _, _, _, _⟩) (v := ?_) rfl (by kernel_rfl) (by kernel_rfl) (by kernel_rfl) (fun _ _ _ h => h) (Or.inl ⟨by kernel_rfl, ?_⟩) hHeld ?_
            rotate_left
            focus (intro W hS; have c0_0 := (hS.1).at_ (j := 0) rfl; have c0_1 := (hS.1).at_ (j := 1) rfl; have c0_2 := (hS.1).at_ (j := 2) rfl; have c0_3 := (hS.1).at_ (j := 3) rfl; have c0_4 := (hS.1).at_ (j := 4) rfl; have c0_5 := (hS.1).at_ (j := 5) rfl; have c0_6 := (hS.1).at_ (j := 6) rfl; have c0_7 := (hS.1).at_ (j := 7) rfl; have c1_0 := (hS.2.1).at_ (j := 0) rfl; have c1_1 := (hS.2.1).at_ (j := 1) rfl; have c1_2 := (hS.2.1).at_ (j := 2) rfl; have c1_3 := (hS.2.1).at_ (j := 3) rfl; have c1_4 := (hS.2.1).at_ (j := 4) rfl; have c1_5 := (hS.2.1).at_ (j := 5) rfl; clear hS; first | (go_simp; done) | (go_simp; with_reducible rfl))
            try simp only [Act.put, List.setIfInBounds_toArray, List.set_cons_zero, List.set_cons_succ]
            refine wpAnyH_done (by kernel_rfl) ?_ _
            rename World => X
            have HBq := Lib.hid hHeld.2.2
            obtain ⟨D, h1, h2, h3, h4, h5⟩ := GQ
            have HO := Lib.hid h1
            have H3 := Lib.hid h3
            have HP4 := Lib.hid (h4 b1 rfl)
            have HP5 := Lib.hid (h5 b2 rfl)
            clear hHeld h1 h2 h3 h4 h5
            go_wp2_with (at_range; refine wpList_range_own _ rfl _ _ rfl _ _ keyed_str under_q _ gQ 2 D rfl HO.out ?_; intro w0 hrg0 hg0 hs0)
            go_frame
            have HRG0 := Lib.hid hrg0
            have HB0 := Lib.hid (grown_below HBq.out hg0 (Nat.le_refl _) (fun k h => by cases h))
            clear hrg0 hg0 hs0
            go_loopw [12] (fun v wr => ∃ (left : Lit → Bool) (cnt : Nat), Hid (wr.ranges Tryz.prog 9 (plainElem Tryz.prog 4) gQ X.heap.size 2 D left cnt) ∧ Hid (∀ kl, left kl = true → Maps.has D kl = true) ∧ Hid (∀ kl, Maps.has D kl = true → left kl = false → ∀ zd, D.atKey kl zd = .lit (.bool true)) ∧ Hid (Below w.heap.size w wr)) (fun _ wr => wr.rangeLeft gQ X.heap.size)
            case atStart => exact ⟨_, _, HRG0, Lib.hid (fun kl h => h), Lib.hid (fun kl h h2 => by rw [h] at h2; cases h2), HB0⟩
            case round =>
              obtain ⟨left, cnt, HRG, HLf, HVl, HBr⟩ := hrel
              go_wp2_with (at_next; refine wpList_next_ranges _ rfl _ rfl 9 keyed_str (plainElem Tryz.prog 4) Value.string Value.bool inv_str (fun v y h => (inv_bool v y h).imp fun c h => h.1) gQ X.heap.size 2 D left cnt rfl HRG.out ?_ ?_; intro hc0 hl0; rotate_left; intro s c kl y w2 cnt2 hkl hlk hR hat hrg2 hlt hgr hsz hen; have hy := may_elem hR; rw [hy] at hat; have HAT := Lib.hid hat; have HLK := Lib.hid hlk; have HRG2 := Lib.hid hrg2; have HLT := Lib.hid hlt; have HB2 := Lib.hid (grown_below HBr.out hgr (Nat.le_refl _) (fun q hq => by injection hq with hq; have := HBq.out.size; omega)); clear hkl hlk hR hat hrg2 hlt hgr hsz hy; cases c)
              · have HR12 := Lib.hid (may_none H3.out HP4.out HP5.out (HLf.out _ HLK.out) HAT.out)
                go_ret
                exact ⟨by rw [HR12.out]; rfl, HB2.out⟩
              · have HLf2 := Lib.hid (may_left HLf.out (kl := kl))
                have HVl2 := Lib.hid (may_next HVl.out HAT.out)
                go_roundw
                case rel => exact ⟨_, _, HRG2, HLf2, HVl2, HB2⟩
                case measure => rw [HRG2.out.left_eq, HRG.out.left_eq]; exact HLT.out
              · have HR12 := Lib.hid (may_all HP4.out HP5.out HVl.out hl0)
                clear hc0 hl0
                go_ret
                exact ⟨by rw [HR12.out]; rfl, HBr.out⟩
          refine AllReadyH.cons (o := ⟨some 41, _, _, _, _, _⟩) rfl (fun K hK => ?_) ?_
          · skip
            go_simp
            refine Calls.mono (CM.out _ hHeld.2.2) ?_
            rintro e x4 ⟨rfl, hb1⟩
            replace GQ := GQ.new hb1
            refine hK.out _ _ ⟨hHeld.1.new hb1, hHeld.2.1.new hb1, below_trans hHeld.2.2 hb1 (Nat.le_refl _)⟩ (fun hHeld' => ?_)
            clear hK K hHeld hb1
            have hHeld := hHeld'
            clear hHeld'
            try simp only [Act.put, List.setIfInBounds_toArray, List.set_cons_zero, List.set_cons_succ]
            refine wpAnyH_ready (rs := [5, 21]) (by kernel_rfl) (by simp) ?_
            refine AllReadyH.cons (o := ⟨none, _, _, _, _, _⟩) rfl (fun K hK => ?_) ?_
            · skip
              obtain ⟨xq, hrun, hGQ, hgr⟩ := GQ.put1 (by unfold maxLen; omega) b1
              go_simp
              refine hK.out _ _ ⟨hHeld.1.grown hgr (by omega), hHeld.2.1.grown hgr (by omega), grown_below hHeld.2.2 hgr (Nat.le_refl _) (fun q hq => by injection hq with hq; omega)⟩ (fun hHeld' => ?_)
              clear hK K hHeld hrun hgr
              replace GQ := hGQ
              clear hGQ
              have hHeld := hHeld'
              clear hHeld'
              generalize xq = x5 at hHeld GQ ⊢
              try simp only [Act.put, List.setIfInBounds_toArray, List.set_cons_zero, List.set_cons_succ]
              refine wpAnyH_ready (rs := [21]) (by kernel_rfl) (by simp) ?_
              refine AllReadyH.cons (o := ⟨none, _, _, _, _, _⟩) rfl (fun K hK => ?_) AllReadyH.nil
              obtain ⟨xq, hrun, hGQ, hgr⟩ := GQ.put2 (by unfold maxLen; omega) b2
              go_simp
              refine hK.out _ _ ⟨hHeld.1.grown hgr (by omega), hHeld.2.1.grown hgr (by omega), grown_below hHeld.2.2 hgr (Nat.le_refl _) (fun q hq => by injection hq with hq; omega)⟩ (fun hHeld' => ?_)
              clear hK K hHeld hrun hgr
              replace GQ := hGQ
              clear hGQ
              have hHeld := hHeld'
              clear hHeld'
              generalize xq = x6 at hHeld GQ ⊢
              try simp only [Act.put, List.setIfInBounds_toArray, List.set_cons_zero, List.set_cons_succ]
              refine wpAnyH_take (i := 22) (oi := ⟨some 42, _, _, _, _, _⟩) (v := ?_) rfl (by kernel_rfl) (by kernel_rfl) (by kernel_rfl) (fun _ _ _ h => h) (Or.inl ⟨by kernel_rfl, ?_⟩) hHeld ?_
              rotate_left
              focus (intro W hS; have c0_0 := (hS.1).at_ (j := 0) rfl; have c0_1 := (hS.1).at_ (j := 1) rfl; have c0_2 := (hS.1).at_ (j := 2) rfl; have c0_3 := (hS.1).at_ (j := 3) rfl; have c0_4 := (hS.1).at_ (j := 4) rfl; have c0_5 := (hS.1).at_ (j := 5) rfl; have c0_6 := (hS.1).at_ (j := 6) rfl; have c0_7 := (hS.1).at_ (j := 7) rfl; have c1_0 := (hS.2.1).at_ (j := 0) rfl; have c1_1 := (hS.2.1).at_ (j := 1) rfl; have c1_2 := (hS.2.1).at_ (j := 2) rfl; have c1_3 := (hS.2.1).at_ (j := 3) rfl; have c1_4 := (hS.2.1).at_ (j := 4) rfl; have c1_5 := (hS.2.1).at_ (j := 5) rfl; clear hS; first | (go_simp; done) | (go_simp; with_reducible rfl))
              try simp only [Act.put, List.setIfInBounds_toArray, List.set_cons_zero, List.set_cons_succ]
              refine wpAnyH_take (i := 23) (oi := ⟨some 10, _, _, _, _, _⟩) (v := ?_) rfl (by kernel_rfl) (by kernel_rfl) (by kernel_rfl) (fun _ _ _ h => h) (Or.inl ⟨by kernel_rfl, ?_⟩) hHeld ?_
              rotate_left
              focus (intro W hS; have c0_0 := (hS.1).at_ (j := 0) rfl; have c0_1 := (hS.1).at_ (j := 1) rfl; have c0_2 := (hS.1).at_ (j := 2) rfl; have c0_3 := (hS.1).at_ (j := 3) rfl; have c0_4 := (hS.1).at_ (j := 4) rfl; have c0_5 := (hS.1).at_ (j := 5) rfl; have c0_6 := (hS.1).at_ (j := 6) rfl; have c0_7 := (hS.1).at_ (j := 7) rfl; have c1_0 := (hS.2.1).at_ (j := 0) rfl; have c1_1 := (hS.2.1).at_ (j := 1) rfl; have c1_2 := (hS.2.1).at_ (j := 2) rfl; have c1_3 := (hS.2.1).at_ (j := 3) rfl; have c1_4 := (hS.2.1).at_ (j := 4) rfl; have c1_5 := (hS.2.1).at_ (j := 5) rfl; clear hS; first | (go_simp; done) | (go_simp; with_reducible rfl))
              try simp only [Act.put, List.setIfInBounds_toArray, List.set_cons_zero, List.set_cons_succ]
              refine wpAnyH_done (by kernel_rfl) ?_ _
              rename World => X
              have HBq := Lib.hid hHeld.2.2
              obtain ⟨D, h1, h2, h3, h4, h5⟩ := GQ
              have HO := Lib.hid h1
              have H3 := Lib.hid h3
              have HP4 := Lib.hid (h4 b1 rfl)
              have HP5 := Lib.hid (h5 b2 rfl)
              clear hHeld h1 h2 h3 h4 h5
              go_wp2_with (at_range; refine wpList_range_own _ rfl _ _ rfl _ _ keyed_str under_q _ gQ 2 D rfl HO.out ?_; intro w0 hrg0 hg0 hs0)
              go_frame
              have HRG0 := Lib.hid hrg0
              have HB0 := Lib.hid (grown_below HBq.out hg0 (Nat.le_refl _) (fun k h => by cases h))
              clear hrg0 hg0 hs0
              go_loopw [12] (fun v wr => ∃ (left : Lit → Bool) (cnt : Nat), Hid (wr.ranges Tryz.prog 9 (plainElem Tryz.prog 4) gQ X.heap.size 2 D left cnt) ∧ Hid (∀ kl, left kl = true → Maps.has D kl = true) ∧ Hid (∀ kl, Maps.has D kl = true → left kl = false → ∀ zd, D.atKey kl zd = .lit (.bool true)) ∧ Hid (Below w.heap.size w wr)) (fun _ wr => wr.rangeLeft gQ X.heap.size)
              case atStart => exact ⟨_, _, HRG0, Lib.hid (fun kl h => h), Lib.hid (fun kl h h2 => by rw [h] at h2; cases h2), HB0⟩
              case round =>
                obtain ⟨left, cnt, HRG, HLf, HVl, HBr⟩ := hrel
                go_wp2_with (at_next; refine wpList_next_ranges _ rfl _ rfl 9 keyed_str (plainElem Tryz.prog 4) Value.string Value.bool inv_str (fun v y h => (inv_bool v y h).imp fun c h => h.1) gQ X.heap.size 2 D left cnt rfl HRG.out ?_ ?_; intro hc0 hl0; rotate_left; intro s c kl y w2 cnt2 hkl hlk hR hat hrg2 hlt hgr hsz hen; have hy := may_elem hR; rw [hy] at hat; have HAT := Lib.hid hat; have HLK := Lib.hid hlk; have HRG2 := Lib.hid hrg2; have HLT := Lib.hid hlt; have HB2 := Lib.hid (grown_below HBr.out hgr (Nat.le_refl _) (fun q hq => by injection hq with hq; have := HBq.out.size; omega)); clear hkl hlk hR hat hrg2 hlt hgr hsz hy; cases c)
                · have HR12 := Lib.hid (may_none H3.out HP4.out HP5.out (HLf.out _ HLK.out) HAT.out)
                  go_ret
                  exact ⟨by rw [HR12.out]; rfl, HB2.out⟩
                · have HLf2 := Lib.hid (may_left HLf.out (kl := kl))
                  have HVl2 := Lib.hid (may_next HVl.out HAT.out)
                  go_roundw
                  case rel => exact ⟨_, _, HRG2, HLf2, HVl2, HB2⟩
                  case measure => rw [HRG2.out.left_eq, HRG.out.left_eq]; exact HLT.out
                · have HR12 := Lib.hid (may_all HP4.out HP5.out HVl.out hl0)
                  clear hc0 hl0
                  go_ret
                  exact ⟨by rw [HR12.out]; rfl, HBr.out⟩
            refine AllReadyH.cons (o := ⟨none, _, _, _, _, _⟩) rfl (fun K hK => ?_) ?_
            · skip
              obtain ⟨xq, hrun, hGQ, hgr⟩ := GQ.put2 (by unfold maxLen; omega) b2
              go_simp
              refine hK.out _ _ ⟨hHeld.1.grown hgr (by omega), hHeld.2.1.grown hgr (by omega), grown_below hHeld.2.2 hgr (Nat.le_refl _) (fun q hq => by injection hq with hq; omega)⟩ (fun hHeld' => ?_)
              clear hK K hHeld hrun hgr
              replace GQ := hGQ
              clear hGQ
              have hHeld := hHeld'
              clear hHeld'
              generalize xq = x5 at hHeld GQ ⊢
              try simp only [Act.put, List.setIfInBounds_toArray, List.set_cons_zero, List.set_cons_succ]
              refine wpAnyH_ready (rs := [5]) (by kernel_rfl) (by simp) ?_
              refine AllReadyH.cons (o := ⟨none, _, _, _, _, _⟩) rfl (fun K hK => ?_) AllReadyH.nil
              obtain ⟨xq, hrun, hGQ, hgr⟩ := GQ.put1 (by unfold maxLen; omega) b1
              go_simp
              refine hK.out _ _ ⟨hHeld.1.grown hgr (by omega), hHeld.2.1.grown hgr (by omega), grown_below hHeld.2.2 hgr (Nat.le_refl _) (fun q hq => by injection hq with hq; omega)⟩ (fun hHeld' => ?_)
              clear hK K hHeld hrun hgr
              replace GQ := hGQ
              clear hGQ
              have hHeld := hHeld'
              clear hHeld'
              generalize xq = x6 at hHeld GQ ⊢
              try simp only [Act.put, List.setIfInBounds_toArray, List.set_cons_zero, List.set_cons_succ]
              refine wpAnyH_take (i := 22) (oi := ⟨some 42, _, _, _, _, _⟩) (v := ?_) rfl (by kernel_rfl) (by kernel_rfl) (by kernel_rfl) (fun _ _ _ h => h) (Or.inl ⟨by kernel_rfl, ?_⟩) hHeld ?_
              rotate_left
              focus (intro W hS; have c0_0 := (hS.1).at_ (j := 0) rfl; have c0_1 := (hS.1).at_ (j := 1) rfl; have c0_2 := (hS.1).at_ (j := 2) rfl; have c0_3 := (hS.1).at_ (j := 3) rfl; have c0_4 := (hS.1).at_ (j := 4) rfl; have c0_5 := (hS.1).at_ (j := 5) rfl; have c0_6 := (hS.1).at_ (j := 6) rfl; have c0_7 := (hS.1).at_ (j := 7) rfl; have c1_0 := (hS.2.1).at_ (j := 0) rfl; have c1_1 := (hS.2.1).at_ (j := 1) rfl; have c1_2 := (hS.2.1).at_ (j := 2) rfl; have c1_3 := (hS.2.1).at_ (j := 3) rfl; have c1_4 := (hS.2.1).at_ (j := 4) rfl; have c1_5 := (hS.2.1).at_ (j := 5) rfl; clear hS; first | (go_simp; done) | (go_simp; with_reducible rfl))
              try simp only [Act.put, List.setIfInBounds_toArray, List.set_cons_zero, List.set_cons_succ]
              refine wpAnyH_take (i := 23) (oi := ⟨some 10, _, _, _, _, _⟩) (v := ?_) rfl (by kernel_rfl) (by kernel_rfl) (by kernel_rfl) (fun _ _ _ h => h) (Or.inl ⟨by kernel_rfl, ?_⟩) hHeld ?_
              rotate_left
              focus (intro W hS; have c0_0 := (hS.1).at_ (j := 0) rfl; have c0_1 := (hS.1).at_ (j := 1) rfl; have c0_2 := (hS.1).at_ (j := 2) rfl; have c0_3 := (hS.1).at_ (j := 3) rfl; have c0_4 := (hS.1).at_ (j := 4) rfl; have c0_5 := (hS.1).at_ (j := 5) rfl; have c0_6 := (hS.1).at_ (j := 6) rfl; have c0_7 := (hS.1).at_ (j := 7) rfl; have c1_0 := (hS.2.1).at_ (j := 0) rfl; have c1_1 := (hS.2.1).at_ (j := 1) rfl; have c1_2 := (hS.2.1).at_ (j := 2) rfl; have c1_3 := (hS.2.1).at_ (j := 3) rfl; have c1_4 := (hS.2.1).at_ (j := 4) rfl; have c1_5 := (hS.2.1).at_ (j := 5) rfl; clear hS; first | (go_simp; done) | (go_simp; with_reducible rfl))
              try simp only [Act.put, List.setIfInBounds_toArray, List.set_cons_zero, List.set_cons_succ]
              refine wpAnyH_done (by kernel_rfl) ?_ _
              rename World => X
              have HBq := Lib.hid hHeld.2.2
              obtain ⟨D, h1, h2, h3, h4, h5⟩ := GQ
              have HO := Lib.hid h1
              have H3 := Lib.hid h3
              have HP4 := Lib.hid (h4 b1 rfl)
              have HP5 := Lib.hid (h5 b2 rfl)
              clear hHeld h1 h2 h3 h4 h5
              go_wp2_with (at_range; refine wpList_range_own _ rfl _ _ rfl _ _ keyed_str under_q _ gQ 2 D rfl HO.out ?_; intro w0 hrg0 hg0 hs0)
              go_frame
              have HRG0 := Lib.hid hrg0
              have HB0 := Lib.hid (grown_below HBq.out hg0 (Nat.le_refl _) (fun k h => by cases h))
              clear hrg0 hg0 hs0
              go_loopw [12] (fun v wr => ∃ (left : Lit → Bool) (cnt : Nat), Hid (wr.ranges Tryz.prog 9 (plainElem Tryz.prog 4) gQ X.heap.size 2 D left cnt) ∧ Hid (∀ kl, left kl = true → Maps.has D kl = true) ∧ Hid (∀ kl, Maps.has D kl = true → left kl = false → ∀ zd, D.atKey kl zd = .lit (.bool true)) ∧ Hid (Below w.heap.size w wr)) (fun _ wr => wr.rangeLeft gQ X.heap.size)
              case atStart => exact ⟨_, _, HRG0, Lib.hid (fun kl h => h), Lib.hid (fun kl h h2 => by rw [h] at h2; cases h2), HB0⟩
              case round =>
                obtain ⟨left, cnt, HRG, HLf, HVl, HBr⟩ := hrel
                go_wp2_with (at_next; refine wpList_next_ranges _ rfl _ rfl 9 keyed_str (plainElem Tryz.prog 4) Value.string Value.bool inv_str (fun v y h => (inv_bool v y h).imp fun c h => h.1) gQ X.heap.size 2 D left cnt rfl HRG.out ?_ ?_; intro hc0 hl0; rotate_left; intro s c kl y w2 cnt2 hkl hlk hR hat hrg2 hlt hgr hsz hen; have hy := may_elem hR; rw [hy] at hat; have HAT := Lib.hid hat; have HLK := Lib.hid hlk; have HRG2 := Lib.hid hrg2; have HLT := Lib.hid hlt; have HB2 := Lib.hid (grown_below HBr.out hgr (Nat.le_refl _) (fun q hq => by injection hq with hq; have := HBq.out.size; omega)); clear hkl hlk hR hat hrg2 hlt hgr hsz hy; cases c)
                · have HR12 := Lib.hid (may_none H3.out HP4.out HP5.out (HLf.out _ HLK.out) HAT.out)
                  go_ret
                  exact ⟨by rw [HR12.out]; rfl, HB2.out⟩
                · have HLf2 := Lib.hid (may_left HLf.out (kl := kl))
                  have HVl2 := Lib.hid (may_next HVl.out HAT.out)
                  go_roundw
                  case rel => exact ⟨_, _, HRG2, HLf2, HVl2, HB2⟩
                  case measure => rw [HRG2.out.left_eq, HRG.out.left_eq]; exact HLT.out
                · have HR12 := Lib.hid (may_all HP4.out HP5.out HVl.out hl0)
                  clear hc0 hl0
                  go_ret
                  exact ⟨by rw [HR12.out]; rfl, HBr.out⟩
            exact AllReadyH.nil
          exact AllReadyH.nil
        exact AllReadyH.nil
      refine AllReadyH.cons (o := ⟨some 40, _, _, _, _, _⟩) rfl (fun K hK => ?_) ?_
      · skip
        go_simp
        refine Calls.mono (CI.out _ hHeld.2.2) ?_
        rintro e x2 ⟨rfl, hb1⟩
        refine hK.out _ _ ⟨hHeld.1.new hb1, hHeld.2.1.new hb1, below_trans hHeld.2.2 hb1 (Nat.le_refl _)⟩ (fun hHeld' => ?_)
        clear hK K hHeld hb1
        have hHeld := hHeld'
        clear hHeld'
        try simp only [Act.put, List.setIfInBounds_toArray, List.set_cons_zero, List.set_cons_succ]
        refine wpAnyH_ready (rs := [0, 20]) (by kernel_rfl) (by simp) ?_
        refine AllReadyH.cons (o := ⟨some 22, _, _, _, _, _⟩) rfl (fun K hK => ?_) ?_
        · skip
          go_simp
          have GQ := mapQ_made x2
          have hb1 := (Below.refl (x2).heap.size x2).alloc (Nat.le_refl _) (.map #[] 0)
          have M0Q : w.heap.size < (x2).heap.size := hHeld.1.lt
          have M1Q : w1.heap.size < (x2).heap.size := hHeld.2.1.lt
          generalize (x2).alloc (.map #[] 0) = xm at hb1 GQ ⊢
          generalize hg : (x2).heap.size = gQ at GQ M0Q M1Q ⊢
          have hb2 : Below (x2).heap.size x2 xm := by rw [hg]; rw [hg] at hb1; exact hb1
          clear hg hb1
          refine hK.out _ _ ⟨hHeld.1.new hb2, hHeld.2.1.new hb2, below_trans hHeld.2.2 hb2 (Nat.le_refl _)⟩ (fun hHeld' => ?_)
          clear hK K hHeld hb2
          have hHeld := hHeld'
          clear hHeld'
          generalize xm = x3 at hHeld GQ ⊢
          try simp only [Act.put, List.setIfInBounds_toArray, List.set_cons_zero, List.set_cons_succ]
          refine wpAnyH_ready (rs := [5, 20]) (by kernel_rfl) (by simp) ?_
          refine AllReadyH.cons (o := ⟨none, _, _, _, _, _⟩) rfl (fun K hK => ?_) ?_
          · skip
            obtain ⟨xq, hrun, hGQ, hgr⟩ := GQ.put1 (by unfold maxLen; omega) b1
            go_simp
            refine hK.out _ _ ⟨hHeld.1.grown hgr (by omega), hHeld.2.1.grown hgr (by omega), grown_below hHeld.2.2 hgr (Nat.le_refl _) (fun q hq => by injection hq with hq; omega)⟩ (fun hHeld' => ?_)
            clear hK K hHeld hrun hgr
            replace GQ := hGQ
            clear hGQ
            have hHeld := hHeld'
            clear hHeld'
            generalize xq = x4 at hHeld GQ ⊢
            try simp only [Act.put, List.setIfInBounds_toArray, List.set_cons_zero, List.set_cons_succ]
            refine wpAnyH_ready (rs := [20]) (by kernel_rfl) (by simp) ?_
            refine AllReadyH.cons (o := ⟨some 41, _, _, _, _, _⟩) rfl (fun K hK => ?_) AllReadyH.nil
            go_simp
            refine Calls.mono (CM.out _ hHeld.2.2) ?_
            rintro e x5 ⟨rfl, hb1⟩
            replace GQ := GQ.new hb1
            refine hK.out _ _ ⟨hHeld.1.new hb1, hHeld.2.1.new hb1, below_trans hHeld.2.2 hb1 (Nat.le_refl _)⟩ (fun hHeld' => ?_)
            clear hK K hHeld hb1
            have hHeld := hHeld'
            clear hHeld'
            try simp only [Act.put, List.setIfInBounds_toArray, List.set_cons_zero, List.set_cons_succ]
            refine wpAnyH_ready (rs := [21]) (by kernel_rfl) (by simp) ?_
            refine AllReadyH.cons (o := ⟨none, _, _, _, _, _⟩) rfl (fun K hK => ?_) AllReadyH.nil
            obtain ⟨xq, hrun, hGQ, hgr⟩ := GQ.put2 (by unfold maxLen; omega) b2
            go_simp
            refine hK.out _ _ ⟨hHeld.1.grown hgr (by omega), hHeld.2.1.grown hgr (by omega), grown_below hHeld.2.2 hgr (Nat.le_refl _) (fun q hq => by injection hq with hq; omega)⟩ (fun hHeld' => ?_)
            clear hK K hHeld hrun hgr
            replace GQ := hGQ
            clear hGQ
            have hHeld := hHeld'
            clear hHeld'
            generalize xq = x6 at hHeld GQ ⊢
            try simp only [Act.put, List.setIfInBounds_toArray, List.set_cons_zero, List.set_cons_succ]
            refine wpAnyH_take (i := 22) (oi := ⟨some 42, _, _, _, _, _⟩) (v := ?_) rfl (by kernel_rfl) (by kernel_rfl) (by kernel_rfl) (fun _ _ _ h => h) (Or.inl ⟨by kernel_rfl, ?_⟩) hHeld ?_
            rotate_left
            focus (intro W hS; have c0_0 := (hS.1).at_ (j := 0) rfl; have c0_1 := (hS.1).at_ (j := 1) rfl; have c0_2 := (hS.1).at_ (j := 2) rfl; have c0_3 := (hS.1).at_ (j := 3) rfl; have c0_4 := (hS.1).at_ (j := 4) rfl; have c0_5 := (hS.1).at_ (j := 5) rfl; have c0_6 := (hS.1).at_ (j := 6) rfl; have c0_7 := (hS.1).at_ (j := 7) rfl; have c1_0 := (hS.2.1).at_ (j := 0) rfl; have c1_1 := (hS.2.1).at_ (j := 1) rfl; have c1_2 := (hS.2.1).at_ (j := 2) rfl; have c1_3 := (hS.2.1).at_ (j := 3) rfl; have c1_4 := (hS.2.1).at_ (j := 4) rfl; have c1_5 := (hS.2.1).at_ (j := 5) rfl; clear hS; first | (go_simp; done) | (go_simp; with_reducible rfl))
            try simp only [Act.put, List.setIfInBounds_toArray, List.set_cons_zero, List.set_cons_succ]
            refine wpAnyH_take (i := 23) (oi := ⟨some 10, _, _, _, _, _⟩) (v := ?_) rfl (by kernel_rfl) (by kernel_rfl) (by kernel_rfl) (fun _ _ _ h => h) (Or.inl ⟨by kernel_rfl, ?_⟩) hHeld ?_
            rotate_left
            focus (intro W hS; have c0_0 := (hS.1).at_ (j := 0) rfl; have c0_1 := (hS.1).at_ (j := 1) rfl; have c0_2 := (hS.1).at_ (j := 2) rfl; have c0_3 := (hS.1).at_ (j := 3) rfl; have c0_4 := (hS.1).at_ (j := 4) rfl; have c0_5 := (hS.1).at_ (j := 5) rfl; have c0_6 := (hS.1).at_ (j := 6) rfl; have c0_7 := (hS.1).at_ (j := 7) rfl; have c1_0 := (hS.2.1).at_ (j := 0) rfl; have c1_1 := (hS.2.1).at_ (j := 1) rfl; have c1_2 := (hS.2.1).at_ (j := 2) rfl; have c1_3 := (hS.2.1).at_ (j := 3) rfl; have c1_4 := (hS.2.1).at_ (j := 4) rfl; have c1_5 := (hS.2.1).at_ (j := 5) rfl; clear hS; first | (go_simp; done) | (go_simp; with_reducible rfl))
            try simp only [Act.put, List.setIfInBounds_toArray, List.set_cons_zero, List.set_cons_succ]
            refine wpAnyH_done (by kernel_rfl) ?_ _
            rename World => X
            have HBq := Lib.hid hHeld.2.2
            obtain ⟨D, h1, h2, h3, h4, h5⟩ := GQ
            have HO := Lib.hid h1
            have H3 := Lib.hid h3
            have HP4 := Lib.hid (h4 b1 rfl)
            have HP5 := Lib.hid (h5 b2 rfl)
            clear hHeld h1 h2 h3 h4 h5
            go_wp2_with (at_range; refine wpList_range_own _ rfl _ _ rfl _ _ keyed_str under_q _ gQ 2 D rfl HO.out ?_; intro w0 hrg0 hg0 hs0)
            go_frame
            have HRG0 := Lib.hid hrg0
            have HB0 := Lib.hid (grown_below HBq.out hg0 (Nat.le_refl _) (fun k h => by cases h))
            clear hrg0 hg0 hs0
            go_loopw [12] (fun v wr => ∃ (left : Lit → Bool) (cnt : Nat), Hid (wr.ranges Tryz.prog 9 (plainElem Tryz.prog 4) gQ X.heap.size 2 D left cnt) ∧ Hid (∀ kl, left kl = true → Maps.has D kl = true) ∧ Hid (∀ kl, Maps.has D kl = true → left kl = false → ∀ zd, D.atKey kl zd = .lit (.bool true)) ∧ Hid (Below w.heap.size w wr)) (fun _ wr => wr.rangeLeft gQ X.heap.size)
            case atStart => exact ⟨_, _, HRG0, Lib.hid (fun kl h => h), Lib.hid (fun kl h h2 => by rw [h] at h2; cases h2), HB0⟩
            case round =>
              obtain ⟨left, cnt, HRG, HLf, HVl, HBr⟩ := hrel
              go_wp2_with (at_next; refine wpList_next_ranges _ rfl _ rfl 9 keyed_str (plainElem Tryz.prog 4) Value.string Value.bool inv_str (fun v y h => (inv_bool v y h).imp fun c h => h.1) gQ X.heap.size 2 D left cnt rfl HRG.out ?_ ?_; intro hc0 hl0; rotate_left; intro s c kl y w2 cnt2 hkl hlk hR hat hrg2 hlt hgr hsz hen; have hy := may_elem hR; rw [hy] at hat; have HAT := Lib.hid hat; have HLK := Lib.hid hlk; have HRG2 := Lib.hid hrg2; have HLT := Lib.hid hlt; have HB2 := Lib.hid (grown_below HBr.out hgr (Nat.le_refl _) (fun q hq => by injection hq with hq; have := HBq.out.size; omega)); clear hkl hlk hR hat hrg2 hlt hgr hsz hy; cases c)
              · have HR12 := Lib.hid (may_none H3.out HP4.out HP5.out (HLf.out _ HLK.out) HAT.out)
                go_ret
                exact ⟨by rw [HR12.out]; rfl, HB2.out⟩
              · have HLf2 := Lib.hid (may_left HLf.out (kl := kl))
                have HVl2 := Lib.hid (may_next HVl.out HAT.out)
                go_roundw
                case rel => exact ⟨_, _, HRG2, HLf2, HVl2, HB2⟩
                case measure => rw [HRG2.out.left_eq, HRG.out.left_eq]; exact HLT.out
              · have HR12 := Lib.hid (may_all HP4.out HP5.out HVl.out hl0)
                clear hc0 hl0
                go_ret
                exact ⟨by rw [HR12.out]; rfl, HBr.out⟩
          refine AllReadyH.cons (o := ⟨some 41, _, _, _, _, _⟩) rfl (fun K hK => ?_) ?_
          · skip
            go_simp
            refine Calls.mono (CM.out _ hHeld.2.2) ?_
            rintro e x4 ⟨rfl, hb1⟩
            replace GQ := GQ.new hb1
            refine hK.out _ _ ⟨hHeld.1.new hb1, hHeld.2.1.new hb1, below_trans hHeld.2.2 hb1 (Nat.le_refl _)⟩ (fun hHeld' => ?_)
            clear hK K hHeld hb1
            have hHeld := hHeld'
            clear hHeld'
            try simp only [Act.put, List.setIfInBounds_toArray, List.set_cons_zero, List.set_cons_succ]
            refine wpAnyH_ready (rs := [5, 21]) (by kernel_rfl) (by simp) ?_
            refine AllReadyH.cons (o := ⟨none, _, _, _, _, _⟩) rfl (fun K hK => ?_) ?_
            · skip
              obtain ⟨xq, hrun, hGQ, hgr⟩ := GQ.put1 (by unfold maxLen; omega) b1
              go_simp
              refine hK.out _ _ ⟨hHeld.1.grown hgr (by omega), hHeld.2.1.grown hgr (by omega), grown_below hHeld.2.2 hgr (Nat.le_refl _) (fun q hq => by injection hq with hq; omega)⟩ (fun hHeld' => ?_)
              clear hK K hHeld hrun hgr
              replace GQ := hGQ
              clear hGQ
              have hHeld := hHeld'
              clear hHeld'
              generalize xq = x5 at hHeld GQ ⊢
              try simp only [Act.put, List.setIfInBounds_toArray, List.set_cons_zero, List.set_cons_succ]
              refine wpAnyH_ready (rs := [21]) (by kernel_rfl) (by simp) ?_
              refine AllReadyH.cons (o := ⟨none, _, _, _, _, _⟩) rfl (fun K hK => ?_) AllReadyH.nil
              obtain ⟨xq, hrun, hGQ, hgr⟩ := GQ.put2 (by unfold maxLen; omega) b2
              go_simp
              refine hK.out _ _ ⟨hHeld.1.grown hgr (by omega), hHeld.2.1.grown hgr (by omega), grown_below hHeld.2.2 hgr (Nat.le_refl _) (fun q hq => by injection hq with hq; omega)⟩ (fun hHeld' => ?_)
              clear hK K hHeld hrun hgr
              replace GQ := hGQ
              clear hGQ
              have hHeld := hHeld'
              clear hHeld'
              generalize xq = x6 at hHeld GQ ⊢
              try simp only [Act.put, List.setIfInBounds_toArray, List.set_cons_zero, List.set_cons_succ]
              refine wpAnyH_take (i := 22) (oi := ⟨some 42, _, _, _, _, _⟩) (v := ?_) rfl (by kernel_rfl) (by kernel_rfl) (by kernel_rfl) (fun _ _ _ h => h) (Or.inl ⟨by kernel_rfl, ?_⟩) hHeld ?_
              rotate_left
              focus (intro W hS; have c0_0 := (hS.1).at_ (j := 0) rfl; have c0_1 := (hS.1).at_ (j := 1) rfl; have c0_2 := (hS.1).at_ (j := 2) rfl; have c0_3 := (hS.1).at_ (j := 3) rfl; have c0_4 := (hS.1).at_ (j := 4) rfl; have c0_5 := (hS.1).at_ (j := 5) rfl; have c0_6 := (hS.1).at_ (j := 6) rfl; have c0_7 := (hS.1).at_ (j := 7) rfl; have c1_0 := (hS.2.1).at_ (j := 0) rfl; have c1_1 := (hS.2.1).at_ (j := 1) rfl; have c1_2 := (hS.2.1).at_ (j := 2) rfl; have c1_3 := (hS.2.1).at_ (j := 3) rfl; have c1_4 := (hS.2.1).at_ (j := 4) rfl; have c1_5 := (hS.2.1).at_ (j := 5) rfl; clear hS; first | (go_simp; done) | (go_simp; with_reducible rfl))
              try simp only [Act.put, List.setIfInBounds_toArray, List.set_cons_zero, List.set_cons_succ]
              refine wpAnyH_take (i := 23) (oi := ⟨some 10, _, _, _, _, _⟩) (v := ?_) rfl (by kernel_rfl) (by kernel_rfl) (by kernel_rfl) (fun _ _ _ h => h) (Or.inl ⟨by kernel_rfl, ?_⟩) hHeld ?_
              rotate_left
              focus (intro W hS; have c0_0 := (hS.1).at_ (j := 0) rfl; have c0_1 := (hS.1).at_ (j := 1) rfl; have c0_2 := (hS.1).at_ (j := 2) rfl; have c0_3 := (hS.1).at_ (j := 3) rfl; have c0_4 := (hS.1).at_ (j := 4) rfl; have c0_5 := (hS.1).at_ (j := 5) rfl; have c0_6 := (hS.1).at_ (j := 6) rfl; have c0_7 := (hS.1).at_ (j := 7) rfl; have c1_0 := (hS.2.1).at_ (j := 0) rfl; have c1_1 := (hS.2.1).at_ (j := 1) rfl; have c1_2 := (hS.2.1).at_ (j := 2) rfl; have c1_3 := (hS.2.1).at_ (j := 3) rfl; have c1_4 := (hS.2.1).at_ (j := 4) rfl; have c1_5 := (hS.2.1).at_ (j := 5) rfl; clear hS; first | (go_simp; done) | (go_simp; with_reducible rfl))
              try simp only [Act.put, List.setIfInBounds_toArray, List.set_cons_zero, List.set_cons_succ]
              refine wpAnyH_done (by kernel_rfl) ?_ _
              rename World => X
              have HBq := Lib.hid hHeld.2.2
              obtain ⟨D, h1, h2, h3, h4, h5⟩ := GQ
              have HO := Lib.hid h1
              have H3 := Lib.hid h3
              have HP4 := Lib.hid (h4 b1 rfl)
              have HP5 := Lib.hid (h5 b2 rfl)
              clear hHeld h1 h2 h3 h4 h5
              go_wp2_with (at_range; refine wpList_range_own _ rfl _ _ rfl _ _ keyed_str under_q _ gQ 2 D rfl HO.out ?_; intro w0 hrg0 hg0 hs0)
              go_frame
              have HRG0 := Lib.hid hrg0
              have HB0 := Lib.hid (grown_below HBq.out hg0 (Nat.le_refl _) (fun k h => by cases h))
              clear hrg0 hg0 hs0
              go_loopw [12] (fun v wr => ∃ (left : Lit → Bool) (cnt : Nat), Hid (wr.ranges Tryz.prog 9 (plainElem Tryz.prog 4) gQ X.heap.size 2 D left cnt) ∧ Hid (∀ kl, left kl = true → Maps.has D kl = true) ∧ Hid (∀ kl, Maps.has D kl = true → left kl = false → ∀ zd, D.atKey kl zd = .lit (.bool true)) ∧ Hid (Below w.heap.size w wr)) (fun _ wr => wr.rangeLeft gQ X.heap.size)
              case atStart => exact ⟨_, _, HRG0, Lib.hid (fun kl h => h), Lib.hid (fun kl h h2 => by rw [h] at h2; cases h2), HB0⟩
              case round =>
                obtain ⟨left, cnt, HRG, HLf, HVl, HBr⟩ := hrel
                go_wp2_with (at_next; refine wpList_next_ranges _ rfl _ rfl 9 keyed_str (plainElem Tryz.prog 4) Value.string Value.bool inv_str (fun v y h => (inv_bool v y h).imp fun c h => h.1) gQ X.heap.size 2 D left cnt rfl HRG.out ?_ ?_; intro hc0 hl0; rotate_left; intro s c kl y w2 cnt2 hkl hlk hR hat hrg2 hlt hgr hsz hen; have hy := may_elem hR; rw [hy] at hat; have HAT := Lib.hid hat; have HLK := Lib.hid hlk; have HRG2 := Lib.hid hrg2; have HLT := Lib.hid hlt; have HB2 := Lib.hid (grown_below HBr.out hgr (Nat.le_refl _) (fun q hq => by injection hq with hq; have := HBq.out.size; omega)); clear hkl hlk hR hat hrg2 hlt hgr hsz hy; cases c)
                · have HR12 := Lib.hid (may_none H3.out HP4.out HP5.out (HLf.out _ HLK.out) HAT.out)
                  go_ret
                  exact ⟨by rw [HR12.out]; rfl, HB2.out⟩
                · have HLf2 := Lib.hid (may_left HLf.out (kl := kl))
                  have HVl2 := Lib.hid (may_next HVl.out HAT.out)
                  go_roundw
                  case rel => exact ⟨_, _, HRG2, HLf2, HVl2, HB2⟩
                  case measure => rw [HRG2.out.left_eq, HRG.out.left_eq]; exact HLT.out
                · have HR12 := Lib.hid (may_all HP4.out HP5.out HVl.out hl0)
                  clear hc0 hl0
                  go_ret
                  exact ⟨by rw [HR12.out]; rfl, HBr.out⟩
            refine AllReadyH.cons (o := ⟨none, _, _, _, _, _⟩) rfl (fun K hK => ?_) ?_
            · skip
              obtain ⟨xq, hrun, hGQ, hgr⟩ := GQ.put2 (by unfold maxLen; omega) b2
              go_simp
              refine hK.out _ _ ⟨hHeld.1.grown hgr (by omega), hHeld.2.1.grown hgr (by omega), grown_below hHeld.2.2 hgr (Nat.le_refl _) (fun q hq => by injection hq with hq; omega)⟩ (fun hHeld' => ?_)
              clear hK K hHeld hrun hgr
              replace GQ := hGQ
              clear hGQ
              have hHeld := hHeld'
              clear hHeld'
              generalize xq = x5 at hHeld GQ ⊢
              try simp only [Act.put, List.setIfInBounds_toArray, List.set_cons_zero, List.set_cons_succ]
              refine wpAnyH_ready (rs := [5]) (by kernel_rfl) (by simp) ?_
              refine AllReadyH.cons (o := ⟨none, _, _, _, _, _⟩) rfl (fun K hK => ?_) AllReadyH.nil
              obtain ⟨xq, hrun, hGQ, hgr⟩ := GQ.put1 (by unfold maxLen; omega) b1
              go_simp
              refine hK.out _ _ ⟨hHeld.1.grown hgr (by omega), hHeld.2.1.grown hgr (by omega), grown_below hHeld.2.2 hgr (Nat.le_refl _) (fun q hq => by injection hq with hq; omega)⟩ (fun hHeld' => ?_)
              clear hK K hHeld hrun hgr
              replace GQ := hGQ
              clear hGQ
              have hHeld := hHeld'
              clear hHeld'
              generalize xq = x6 at hHeld GQ ⊢
              try simp only [Act.put, List.setIfInBounds_toArray, List.set_cons_zero, List.set_cons_succ]
              refine wpAnyH_take (i := 22) (oi := ⟨some 42, _, _, _, _, _⟩) (v := ?_) rfl (by kernel_rfl) (by kernel_rfl) (by kernel_rfl) (fun _ _ _ h => h) (Or.inl ⟨by kernel_rfl, ?_⟩) hHeld ?_
              rotate_left
              focus (intro W hS; have c0_0 := (hS.1).at_ (j := 0) rfl; have c0_1 := (hS.1).at_ (j := 1) rfl; have c0_2 := (hS.1).at_ (j := 2) rfl; have c0_3 := (hS.1).at_ (j := 3) rfl; have c0_4 := (hS.1).at_ (j := 4) rfl; have c0_5 := (hS.1).at_ (j := 5) rfl; have c0_6 := (hS.1).at_ (j := 6) rfl; have c0_7 := (hS.1).at_ (j := 7) rfl; have c1_0 := (hS.2.1).at_ (j := 0) rfl; have c1_1 := (hS.2.1).at_ (j := 1) rfl; have c1_2 := (hS.2.1).at_ (j := 2) rfl; have c1_3 := (hS.2.1).at_ (j := 3) rfl; have c1_4 := (hS.2.1).at_ (j := 4) rfl; have c1_5 := (hS.2.1).at_ (j := 5) rfl; clear hS; first | (go_simp; done) | (go_simp; with_reducible rfl))
              try simp only [Act.put, List.setIfInBounds_toArray, List.set_cons_zero, List.set_cons_succ]
              refine wpAnyH_take (i := 23) (oi := ⟨some 10, _, _, _, _, _⟩) (v := ?_) rfl (by kernel_rfl) (by kernel_rfl) (by kernel_rfl) (fun _ _ _ h => h) (Or.inl ⟨by kernel_rfl, ?_⟩) hHeld ?_
              rotate_left
              focus (intro W hS; have c0_0 := (hS.1).at_ (j := 0) rfl; have c0_1 := (hS.1).at_ (j := 1) rfl; have c0_2 := (hS.1).at_ (j := 2) rfl; have c0_3 := (hS.1).at_ (j := 3) rfl; have c0_4 := (hS.1).at_ (j := 4) rfl; have c0_5 := (hS.1).at_ (j := 5) rfl; have c0_6 := (hS.1).at_ (j := 6) rfl; have c0_7 := (hS.1).at_ (j := 7) rfl; have c1_0 := (hS.2.1).at_ (j := 0) rfl; have c1_1 := (hS.2.1).at_ (j := 1) rfl; have c1_2 := (hS.2.1).at_ (j := 2) rfl; have c1_3 := (hS.2.1).at_ (j := 3) rfl; have c1_4 := (hS.2.1).at_ (j := 4) rfl; have c1_5 := (hS.2.1).at_ (j := 5) rfl; clear hS; first | (go_simp; done) | (go_simp; with_reducible rfl))
              try simp only [Act.put, List.setIfInBounds_toArray, List.set_cons_zero, List.set_cons_succ]
              refine wpAnyH_done (by kernel_rfl) ?_ _
              rename World => X
              have HBq := Lib.hid hHeld.2.2
              obtain ⟨D, h1, h2, h3, h4, h5⟩ := GQ
              have HO := Lib.hid h1
              have H3 := Lib.hid h3
              have HP4 := Lib.hid (h4 b1 rfl)
              have HP5 := Lib.hid (h5 b2 rfl)
              clear hHeld h1 h2 h3 h4 h5
              go_wp2_with (at_range; refine wpList_range_own _ rfl _ _ rfl _ _ keyed_str under_q _ gQ 2 D rfl HO.out ?_; intro w0 hrg0 hg0 hs0)
              go_frame
              have HRG0 := Lib.hid hrg0
              have HB0 := Lib.hid (grown_below HBq.out hg0 (Nat.le_refl _) (fun k h => by cases h))
              clear hrg0 hg0 hs0
              go_loopw [12] (fun v wr => ∃ (left : Lit → Bool) (cnt : Nat), Hid (wr.ranges Tryz.prog 9 (plainElem Tryz.prog 4) gQ X.heap.size 2 D left cnt) ∧ Hid (∀ kl, left kl = true → Maps.has D kl = true) ∧ Hid (∀ kl, Maps.has D kl = true → left kl = false → ∀ zd, D.atKey kl zd = .lit (.bool true)) ∧ Hid (Below w.heap.size w wr)) (fun _ wr => wr.rangeLeft gQ X.heap.size)
              case atStart => exact ⟨_, _, HRG0, Lib.hid (fun kl h => h), Lib.hid (fun kl h h2 => by rw [h] at h2; cases h2), HB0⟩
              case round =>
                obtain ⟨left, cnt, HRG, HLf, HVl, HBr⟩ := hrel
                go_wp2_with (at_next; refine wpList_next_ranges _ rfl _ rfl 9 keyed_str (plainElem Tryz.prog 4) Value.string Value.bool inv_str (fun v y h => (inv_bool v y h).imp fun c h => h.1) gQ X.heap.size 2 D left cnt rfl HRG.out ?_ ?_; intro hc0 hl0; rotate_left; intro s c kl y w2 cnt2 hkl hlk hR hat hrg2 hlt hgr hsz hen; have hy := may_elem hR; rw [hy] at hat; have HAT := Lib.hid hat; have HLK := Lib.hid hlk; have HRG2 := Lib.hid hrg2; have HLT := Lib.hid hlt; have HB2 := Lib.hid (grown_below HBr.out hgr (Nat.le_refl _) (fun q hq => by injection hq with hq; have := HBq.out.size; omega)); clear hkl hlk hR hat hrg2 hlt hgr hsz hy; cases c)
                · have HR12 := Lib.hid (may_none H3.out HP4.out HP5.out (HLf.out _ HLK.out) HAT.out)
                  go_ret
                  exact ⟨by rw [HR12.out]; rfl, HB2.out⟩
                · have HLf2 := Lib.hid (may_left HLf.out (kl := kl))
                  have HVl2 := Lib.hid (may_next HVl.out HAT.out)
                  go_roundw
                  case rel => exact ⟨_, _, HRG2, HLf2, HVl2, HB2⟩
                  case measure => rw [HRG2.out.left_eq, HRG.out.left_eq]; exact HLT.out
                · have HR12 := Lib.hid (may_all HP4.out HP5.out HVl.out hl0)
                  clear hc0 hl0
                  go_ret
                  exact ⟨by rw [HR12.out]; rfl, HBr.out⟩
            exact AllReadyH.nil
          exact AllReadyH.nil
        refine AllReadyH.cons (o := ⟨some 41, _, _, _, _, _⟩) rfl (fun K hK => ?_) ?_
        · skip
          go_simp
          refine Calls.mono (CM.out _ hHeld.2.2) ?_
          rintro e x3 ⟨rfl, hb1⟩
          refine hK.out _ _ ⟨hHeld.1.new hb1, hHeld.2.1.new hb1, below_trans hHeld.2.2 hb1 (Nat.le_refl _)⟩ (fun hHeld' => ?_)
          clear hK K hHeld hb1
          have hHeld := hHeld'
          clear hHeld'
          try simp only [Act.put, List.setIfInBounds_toArray, List.set_cons_zero, List.set_cons_succ]
          refine wpAnyH_ready (rs := [0]) (by kernel_rfl) (by simp) ?_
          refine AllReadyH.cons (o := ⟨some 22, _, _, _, _, _⟩) rfl (fun K hK => ?_) AllReadyH.nil
          go_simp
          have GQ := mapQ_made x3
          have hb1 := (Below.refl (x3).heap.size x3).alloc (Nat.le_refl _) (.map #[] 0)
          have M0Q : w.heap.size < (x3).heap.size := hHeld.1.lt
          have M1Q : w1.heap.size < (x3).heap.size := hHeld.2.1.lt
          generalize (x3).alloc (.map #[] 0) = xm at hb1 GQ ⊢
          generalize hg : (x3).heap.size = gQ at GQ M0Q M1Q ⊢
          have hb2 : Below (x3).heap.size x3 xm := by rw [hg]; rw [hg] at hb1; exact hb1
          clear hg hb1
          refine hK.out _ _ ⟨hHeld.1.new hb2, hHeld.2.1.new hb2, below_trans hHeld.2.2 hb2 (Nat.le_refl _)⟩ (fun hHeld' => ?_)
          clear hK K hHeld hb2
          have hHeld := hHeld'
          clear hHeld'
          generalize xm = x4 at hHeld GQ ⊢
          try simp only [Act.put, List.setIfInBounds_toArray, List.set_cons_zero, List.set_cons_succ]
          refine wpAnyH_ready (rs := [5, 21]) (by kernel_rfl) (by simp) ?_
          refine AllReadyH.cons (o := ⟨none, _, _, _, _, _⟩) rfl (fun K hK => ?_) ?_
          · skip
            obtain ⟨xq, hrun, hGQ, hgr⟩ := GQ.put1 (by unfold maxLen; omega) b1
            go_simp
            refine hK.out _ _ ⟨hHeld.1.grown hgr (by omega), hHeld.2.1.grown hgr (by omega), grown_below hHeld.2.2 hgr (Nat.le_refl _) (fun q hq => by injection hq with hq; omega)⟩ (fun hHeld' => ?_)
            clear hK K hHeld hrun hgr
            replace GQ := hGQ
            clear hGQ
            have hHeld := hHeld'
            clear hHeld'
            generalize xq = x5 at hHeld GQ ⊢
            try simp only [Act.put, List.setIfInBounds_toArray, List.set_cons_zero, List.set_cons_succ]
            refine wpAnyH_ready (rs := [21]) (by kernel_rfl) (by simp) ?_
            refine AllReadyH.cons (o := ⟨none, _, _, _, _, _⟩) rfl (fun K hK => ?_) AllReadyH.nil
            obtain ⟨xq, hrun, hGQ, hgr⟩ := GQ.put2 (by unfold maxLen; omega) b2
            go_simp
            refine hK.out _ _ ⟨hHeld.1.grown hgr (by omega), hHeld.2.1.grown hgr (by omega), grown_below hHeld.2.2 hgr (Nat.le_refl _) (fun q hq => by injection hq with hq; omega)⟩ (fun hHeld' => ?_)
            clear hK K hHeld hrun hgr
            replace GQ := hGQ
            clear hGQ
            have hHeld := hHeld'
            clear hHeld'
            generalize xq = x6 at hHeld GQ ⊢
            try simp only [Act.put, List.setIfInBounds_toArray, List.set_cons_zero, List.set_cons_succ]
            refine wpAnyH_take (i := 22) (oi := ⟨some 42, _, _, _, _, _⟩) (v := ?_) rfl (by kernel_rfl) (by kernel_rfl) (by kernel_rfl) (fun _ _ _ h => h) (Or.inl ⟨by kernel_rfl, ?_⟩) hHeld ?_
            rotate_left
            focus (intro W hS; have c0_0 := (hS.1).at_ (j := 0) rfl; have c0_1 := (hS.1).at_ (j := 1) rfl; have c0_2 := (hS.1).at_ (j := 2) rfl; have c0_3 := (hS.1).at_ (j := 3) rfl; have c0_4 := (hS.1).at_ (j := 4) rfl; have c0_5 := (hS.1).at_ (j := 5) rfl; have c0_6 := (hS.1).at_ (j := 6) rfl; have c0_7 := (hS.1).at_ (j := 7) rfl; have c1_0 := (hS.2.1).at_ (j := 0) rfl; have c1_1 := (hS.2.1).at_ (j := 1) rfl; have c1_2 := (hS.2.1).at_ (j := 2) rfl; have c1_3 := (hS.2.1).at_ (j := 3) rfl; have c1_4 := (hS.2.1).at_ (j := 4) rfl; have c1_5 := (hS.2.1).at_ (j := 5) rfl; clear hS; first | (go_simp; done) | (go_simp; with_reducible rfl))
            try simp only [Act.put, List.setIfInBounds_toArray, List.set_cons_zero, List.set_cons_succ]
            refine wpAnyH_take (i := 23) (oi := ⟨some 10, _, _, _, _, _⟩) (v := ?_) rfl (by kernel_rfl) (by kernel_rfl) (by kernel_rfl) (fun _ _ _ h => h) (Or.inl ⟨by kernel_rfl, ?_⟩) hHeld ?_
            rotate_left
            focus (intro W hS; have c0_0 := (hS.1).at_ (j := 0) rfl; have c0_1 := (hS.1).at_ (j := 1) rfl; have c0_2 := (hS.1).at_ (j := 2) rfl; have c0_3 := (hS.1).at_ (j := 3) rfl; have c0_4 := (hS.1).at_ (j := 4) rfl; have c0_5 := (hS.1).at_ (j := 5) rfl; have c0_6 := (hS.1).at_ (j := 6) rfl; have c0_7 := (hS.1).at_ (j := 7) rfl; have c1_0 := (hS.2.1).at_ (j := 0) rfl; have c1_1 := (hS.2.1).at_ (j := 1) rfl; have c1_2 := (hS.2.1).at_ (j := 2) rfl; have c1_3 := (hS.2.1).at_ (j := 3) rfl; have c1_4 := (hS.2.1).at_ (j := 4) rfl; have c1_5 := (hS.2.1).at_ (j := 5) rfl; clear hS; first | (go_simp; done) | (go_simp; with_reducible rfl))
            try simp only [Act.put, List.setIfInBounds_toArray, List.set_cons_zero, List.set_cons_succ]
            refine wpAnyH_done (by kernel_rfl) ?_ _
            rename World => X
            have HBq := Lib.hid hHeld.2.2
            obtain ⟨D, h1, h2, h3, h4, h5⟩ := GQ
            have HO := Lib.hid h1
            have H3 := Lib.hid h3
            have HP4 := Lib.hid (h4 b1 rfl)
            have HP5 := Lib.hid (h5 b2 rfl)
            clear hHeld h1 h2 h3 h4 h5
            go_wp2_with (at_range; refine wpList_range_own _ rfl _ _ rfl _ _ keyed_str under_q _ gQ 2 D rfl HO.out ?_; intro w0 hrg0 hg0 hs0)
            go_frame
            have HRG0 := Lib.hid hrg0
            have HB0 := Lib.hid (grown_below HBq.out hg0 (Nat.le_refl _) (fun k h => by cases h))
            clear hrg0 hg0 hs0
            go_loopw [12] (fun v wr => ∃ (left : Lit → Bool) (cnt : Nat), Hid (wr.ranges Tryz.prog 9 (plainElem Tryz.prog 4) gQ X.heap.size 2 D left cnt) ∧ Hid (∀ kl, left kl = true → Maps.has D kl = true) ∧ Hid (∀ kl, Maps.has D kl = true → left kl = false → ∀ zd, D.atKey kl zd = .lit (.bool true)) ∧ Hid (Below w.heap.size w wr)) (fun _ wr => wr.rangeLeft gQ X.heap.size)
            case atStart => exact ⟨_, _, HRG0, Lib.hid (fun kl h => h), Lib.hid (fun kl h h2 => by rw [h] at h2; cases h2), HB0⟩
            case round =>
              obtain ⟨left, cnt, HRG, HLf, HVl, HBr⟩ := hrel
              go_wp2_with (at_next; refine wpList_next_ranges _ rfl _ rfl 9 keyed_str (plainElem Tryz.prog 4) Value.string Value.bool inv_str (fun v y h => (inv_bool v y h).imp fun c h => h.1) gQ X.heap.size 2 D left cnt rfl HRG.out ?_ ?_; intro hc0 hl0; rotate_left; intro s c kl y w2 cnt2 hkl hlk hR hat hrg2 hlt hgr hsz hen; have hy := may_elem hR; rw [hy] at hat; have HAT := Lib.hid hat; have HLK := Lib.hid hlk; have HRG2 := Lib.hid hrg2; have HLT := Lib.hid hlt; have HB2 := Lib.hid (grown_below HBr.out hgr (Nat.le_refl _) (fun q hq => by injection hq with hq; have := HBq.out.size; omega)); clear hkl hlk hR hat hrg2 hlt hgr hsz hy; cases c)
              · have HR12 := Lib.hid (may_none H3.out HP4.out HP5.out (HLf.out _ HLK.out) HAT.out)
                go_ret
                exact ⟨by rw [HR12.out]; rfl, HB2.out⟩
              · have HLf2 := Lib.hid (may_left HLf.out (kl := kl))
                have HVl2 := Lib.hid (may_next HVl.out HAT.out)
                go_roundw
                case rel => exact ⟨_, _, HRG2, HLf2, HVl2, HB2⟩
                case measure => rw [HRG2.out.left_eq, HRG.out.left_eq]; exact HLT.out
              · have HR12 := Lib.hid (may_all HP4.out HP5.out HVl.out hl0)
                clear hc0 hl0
                go_ret
                exact ⟨by rw [HR12.out]; rfl, HBr.out⟩
          refine AllReadyH.cons (o := ⟨none, _, _, _, _, _⟩) rfl (fun K hK => ?_) ?_
          · skip
            obtain ⟨xq, hrun, hGQ, hgr⟩ := GQ.put2 (by unfold maxLen; omega) b2
            go_simp
            refine hK.out _ _ ⟨hHeld.1.grown hgr (by omega), hHeld.2.1.grown hgr (by omega), grown_below hHeld.2.2 hgr (Nat.le_refl _) (fun q hq => by injection hq with hq; omega)⟩ (fun hHeld' => ?_)
            clear hK K hHeld hrun hgr
            replace GQ := hGQ
            clear hGQ
            have hHeld := hHeld'
            clear hHeld'
            generalize xq = x5 at hHeld GQ ⊢
            try simp only [Act.put, List.setIfInBounds_toArray, List.set_cons_zero, List.set_cons_succ]
            refine wpAnyH_ready (rs := [5]) (by kernel_rfl) (by simp) ?_
            refine AllReadyH.cons (o := ⟨none, _, _, _, _, _⟩) rfl (fun K hK => ?_) AllReadyH.nil
            obtain ⟨xq, hrun, hGQ, hgr⟩ := GQ.put1 (by unfold maxLen; omega) b1
            go_simp
            refine hK.out _ _ ⟨hHeld.1.grown hgr (by omega), hHeld.2.1.grown hgr (by omega), grown_below hHeld.2.2 hgr (Nat.le_refl _) (fun q hq => by injection hq with hq; omega)⟩ (fun hHeld' => ?_)
            clear hK K hHeld hrun hgr
            replace GQ := hGQ
            clear hGQ
            have hHeld := hHeld'
            clear hHeld'
            generalize xq = x6 at hHeld GQ ⊢
            try simp only [Act.put, List.setIfInBounds_toArray, List.set_cons_zero, List.set_cons_succ]
            refine wpAnyH_take (i := 22) (oi := ⟨some 42, _, _, _, _, _⟩) (v := ?_) rfl (by kernel_rfl) (by kernel_rfl) (by kernel_rfl) (fun _ _ _ h => h) (Or.inl ⟨by kernel_rfl, ?_⟩) hHeld ?_
            rotate_left
            focus (intro W hS; have c0_0 := (hS.1).at_ (j := 0) rfl; have c0_1 := (hS.1).at_ (j := 1) rfl; have c0_2 := (hS.1).at_ (j := 2) rfl; have c0_3 := (hS.1).at_ (j := 3) rfl; have c0_4 := (hS.1).at_ (j := 4) rfl; have c0_5 := (hS.1).at_ (j := 5) rfl; have c0_6 := (hS.1).at_ (j := 6) rfl; have c0_7 := (hS.1).at_ (j := 7) rfl; have c1_0 := (hS.2.1).at_ (j := 0) rfl; have c1_1 := (hS.2.1).at_ (j := 1) rfl; have c1_2 := (hS.2.1).at_ (j := 2) rfl; have c1_3 := (hS.2.1).at_ (j := 3) rfl; have c1_4 := (hS.2.1).at_ (j := 4) rfl; have c1_5 := (hS.2.1).at_ (j := 5) rfl; clear hS; first | (go_simp; done) | (go_simp; with_reducible rfl))
            try simp only [Act.put, List.setIfInBounds_toArray, List.set_cons_zero, List.set_cons_succ]
            refine wpAnyH_take (i := 23) (oi := ⟨some 10, _, _, _, _, _⟩) (v := ?_) rfl (by kernel_rfl) (by kernel_rfl) (by kernel_rfl) (fun _ _ _ h => h) (Or.inl ⟨by kernel_rfl, ?_⟩) hHeld ?_
            rotate_left
            focus (intro W hS; have c0_0 := (hS.1).at_ (j := 0) rfl; have c0_1 := (hS.1).at_ (j := 1) rfl; have c0_2 := (hS.1).at_ (j := 2) rfl; have c0_3 := (hS.1).at_ (j := 3) rfl; have c0_4 := (hS.1).at_ (j := 4) rfl; have c0_5 := (hS.1).at_ (j := 5) rfl; have c0_6 := (hS.1).at_ (j := 6) rfl; have c0_7 := (hS.1).at_ (j := 7) rfl; have c1_0 := (hS.2.1).at_ (j := 0) rfl; have c1_1 := (hS.2.1).at_ (j := 1) rfl; have c1_2 := (hS.2.1).at_ (j := 2) rfl; have c1_3 := (hS.2.1).at_ (j := 3) rfl; have c1_4 := (hS.2.1).at_ (j := 4) rfl; have c1_5 := (hS.2.1).at_ (j := 5) rfl; clear hS; first | (go_simp; done) | (go_simp; with_reducible rfl))
            try simp only [Act.put, List.setIfInBounds_toArray, List.set_cons_zero, List.set_cons_succ]
            refine wpAnyH_done (by kernel_rfl) ?_ _
            rename World => X
            have HBq := Lib.hid hHeld.2.2
            obtain ⟨D, h1, h2, h3, h4, h5⟩ := GQ
            have HO := Lib.hid h1
            have H3 := Lib.hid h3
            have HP4 := Lib.hid (h4 b1 rfl)
            have HP5 := Lib.hid (h5 b2 rfl)
            clear hHeld h1 h2 h3 h4 h5
            go_wp2_with (at_range; refine wpList_range_own _ rfl _ _ rfl _ _ keyed_str under_q _ gQ 2 D rfl HO.out ?_; intro w0 hrg0 hg0 hs0)
            go_frame
            have HRG0 := Lib.hid hrg0
            have HB0 := Lib.hid (grown_below HBq.out hg0 (Nat.le_refl _) (fun k h => by cases h))
            clear hrg0 hg0 hs0
            go_loopw [12] (fun v wr => ∃ (left : Lit → Bool) (cnt : Nat), Hid (wr.ranges Tryz.prog 9 (plainElem Tryz.prog 4) gQ X.heap.size 2 D left cnt) ∧ Hid (∀ kl, left kl = true → Maps.has D kl = true) ∧ Hid (∀ kl, Maps.has D kl = true → left kl = false → ∀ zd, D.atKey kl zd = .lit (.bool true)) ∧ Hid (Below w.heap.size w wr)) (fun _ wr => wr.rangeLeft gQ X.heap.size)
            case atStart => exact ⟨_, _, HRG0, Lib.hid (fun kl h => h), Lib.hid (fun kl h h2 => by rw [h] at h2; cases h2), HB0⟩
            case round =>
              obtain ⟨left, cnt, HRG, HLf, HVl, HBr⟩ := hrel
              go_wp2_with (at_next; refine wpList_next_ranges _ rfl _ rfl 9 keyed_str (plainElem Tryz.prog 4) Value.string Value.bool inv_str (fun v y h => (inv_bool v y h).imp fun c h => h.1) gQ X.heap.size 2 D left cnt rfl HRG.out ?_ ?_; intro hc0 hl0; rotate_left; intro s c kl y w2 cnt2 hkl hlk hR hat hrg2 hlt hgr hsz hen; have hy := may_elem hR; rw [hy] at hat; have HAT := Lib.hid hat; have HLK := Lib.hid hlk; have HRG2 := Lib.hid hrg2; have HLT := Lib.hid hlt; have HB2 := Lib.hid (grown_below HBr.out hgr (Nat.le_refl _) (fun q hq => by injection hq with hq; have := HBq.out.size; omega)); clear hkl hlk hR hat hrg2 hlt hgr hsz hy; cases c)
              · have HR12 := Lib.hid (may_none H3.out HP4.out HP5.out (HLf.out _ HLK.out) HAT.out)
                go_ret
                exact ⟨by rw [HR12.out]; rfl, HB2.out⟩
              · have HLf2 := Lib.hid (may_left HLf.out (kl := kl))
                have HVl2 := Lib.hid (may_next HVl.out HAT.out)
                go_roundw
                case rel => exact ⟨_, _, HRG2, HLf2, HVl2, HB2⟩
                case measure => rw [HRG2.out.left_eq, HRG.out.left_eq]; exact HLT.out
              · have HR12 := Lib.hid (may_all HP4.out HP5.out HVl.out hl0)
                clear hc0 hl0
                go_ret
                exact ⟨by rw [HR12.out]; rfl, HBr.out⟩
          exact AllReadyH.nil
        exact AllReadyH.nil
      exact AllReadyH.nil
    exact AllReadyH.nil

end Go.Proofs.YtjgcgipglmhgeaaGreat
namespace Go.Proofs.YtjgcgipglmhgeaaGreat
open Go Go.ChangeShapes Go.WideShapes Go.ChangeAt Go.RowKit Go.Lib
set_option linter.unusedVariables false
set_option linter.unusedSimpArgs false
set_option maxRecDepth 100000
set_option maxHeartbeats 4000000
set_option maxHeartbeats 16000000 in
theorem spec_MayAct (x : DBrowser) (m : MBrowser) (lo hi : Nat) (ext : Int) (a : Int) (kd : Int) (w : World) (hd : x.dat = m) (hz : m.sz ≤ 1048576) (hok : m.ok) (hr : x.rd w lo hi) (hc : x.caps) :
    Calls Tryz.prog 19 #[.agg #[.int .i64 x.p0, .slice x.A1 x.n1 x.c1, .slice x.A2 x.n2 x.c2, .slice x.A3 x.n3 x.c3, .slice x.A4 x.n4 x.c4, .slice x.A5 x.n5 x.c5, .slice x.A6 x.n6 x.c6, .int .i64 x.p7], .int .i64 ext, .int .i64 a, .int .i64 kd] w (Says (.bool (mMayA m ext a kd)) w) := by
  have CP := Lib.hid (fun W (hW : Below w.heap.size w W) => spec_PackOf x m lo hi ext W hd hz hok (hr.new hW))
  subst hd
  have hl : (x.n1 : Int) = (x.l1.length : Int) := by have := hr.1.len; omega
  have CH := Lib.hid (fun W => says_of_same (spec_in a 0 ((x.n1 : Int) - 1) W))
  have hn1' : x.n1 ≤ 1048576 := by rw [hr.sz] at hz; omega
  have HB0 := Lib.hid ((Below.refl w.heap.size w).alloc (Nat.le_refl _) (.cells #[.int .i64 x.p0, .slice x.A1 x.n1 x.c1, .slice x.A2 x.n2 x.c2, .slice x.A3 x.n3 x.c3, .slice x.A4 x.n4 x.c4, .slice x.A5 x.n5 x.c5, .slice x.A6 x.n6 x.c6, .int .i64 x.p7] 40))
  have e0 : mMayA x.dat ext a kd = (decide (0 ≤ mPackOf x.dat ext) && mMayA x.dat ext a kd) := by
    unfold mMayA
    cases mTabAt x.dat a with
    | none => simp
    | some t => simp only []; cases decide (0 ≤ mPackOf x.dat ext) <;> simp
  by_cases hp : mPackOf x.dat ext < 0
  · have e1 : mMayA x.dat ext a kd = false := by rw [e0, decide_eq_false (by omega)]; rfl
    rw [e1]
    generalize mPackOf x.dat ext = pk at CP hp
    clear e0 e1 hr hz hok hl CH hc
    go_enter Tryz.func19, Tryz.ntmps19
    go_wp2_with fail
    refine (CP.out _ HB0.out).mono ?_
    rintro e w1 ⟨rfl, hb1⟩
    have HB1 := Lib.hid (below_trans HB0.out hb1 (by simp))
    clear hb1
    go_wp2_with fail
    go_ret
    exact ⟨rfl, HB1.out⟩
  · cases hin : inR a 0 ((x.l1.length : Int) - 1) with
    | false =>
      rw [hl, hin] at CH
      have e1 : mMayA x.dat ext a kd = false := by unfold mMayA; rw [mTabAt_no hin]
      rw [e1]
      rw [← hl] at CH
      have KB := Lib.hid (box_new w 40 #[.int .i64 x.p0, .slice x.A1 x.n1 x.c1, .slice x.A2 x.n2 x.c2, .slice x.A3 x.n3 x.c3, .slice x.A4 x.n4 x.c4, .slice x.A5 x.n5 x.c5, .slice x.A6 x.n6 x.c6, .int .i64 x.p7])
      generalize mPackOf x.dat ext = pk at CP hp
      clear e0 e1 hin hr hz hok hl hc
      go_enter Tryz.func19, Tryz.ntmps19
      go_wp2_with fail
      refine (CP.out _ HB0.out).mono ?_
      rintro e w1 ⟨rfl, hb1⟩
      have HB1 := Lib.hid (below_trans HB0.out hb1 (by simp))
      have KB1 := Lib.hid (KB.out.new hb1)
      have k1 := KB1.out.at_ (j := 1) (u := .slice x.A1 x.n1 x.c1) rfl
      clear hb1
      go_wp2_with fail
      refine (CH.out _).mono ?_
      rintro e w2 ⟨rfl, hb2⟩
      have HB2 := Lib.hid (below_trans HB1.out hb2 (Nat.le_refl _))
      clear hb2
      go_wp2_with fail
      go_ret
      exact ⟨rfl, HB2.out⟩
    | true =>
      rw [hl, hin, ← hl] at CH
      obtain ⟨k, t, rfl, hk, hkt, hat⟩ := mTabAt_yes hin
      have e1 : mMayA x.dat ext (k : Int) kd = (decide (0 ≤ mPackOf x.dat ext) && (mAllowed x.l3 ext t.s0 kd x.p7 (mClicked t.p4 x.p7) && !mDenied x.l4 ext t.s0 kd)) := by unfold mMayA; rw [hat]; rfl
      rw [e1, decide_eq_true (show 0 ≤ mPackOf x.dat ext by omega), Bool.true_and]
      have hln := hr.1.len
      have hkn : k < x.n1 := by omega
      have hn1 : x.n1 ≤ 1048576 := by rw [hr.sz] at hz; omega
      have hn3 : x.n3 ≤ 1048576 := by rw [hr.sz] at hz; omega
      have hn4 : x.n4 ≤ 1048576 := by rw [hr.sz] at hz; omega
      have htz := MTab.szs_mem (x.l1.map DTab.dat) k t.dat (by rw [List.getElem?_map, hkt]; rfl)
      have htz2 : t.dat.sz ≤ 1048575 := by rw [hr.sz] at hz; omega
      have hto : t.dat.ok := hok.2.1 t.dat (List.mem_map.2 ⟨t, List.mem_of_getElem? hkt, rfl⟩)
      have HX := (hr.old).1.at_ hkt
      have hts := DTab.rd_sz HX
      have hls := DTab.rd_lens HX
      have CI := Lib.hid (fun W (hb : Below w.heap.size w W) => spec_IsClicked t.s0 t.l1 t.A1 t.n1 t.c1 0 w.heap.size t.l2 t.A2 t.n2 t.c2 0 w.heap.size t.l3 t.A3 t.n3 t.c3 0 w.heap.size t.p4 x.p7 W (by omega) (HX.1.2.new hb) (Lib.hid hto.2.1) (by omega) (HX.2.1.2.new hb) (Lib.hid hto.2.2.1) (by omega) (HX.2.2.2.new hb) (Lib.hid hto.2.2.2.1))
      have CM := Lib.hid (fun (W : World) (hb : Below w.heap.size w W) => spec_MayDo x.l3 x.A3 x.n3 x.c3 lo hi x.l4 x.A4 x.n4 x.c4 lo hi ext t.s0 kd x.p7 (mClicked t.p4 x.p7) W hn3 (hr.2.2.1.2.new hb) hc.1 (Lib.hid hok.2.2.2.1) hn4 (hr.2.2.2.1.2.new hb) hc.2.1 (Lib.hid hok.2.2.2.2.1))
      obtain ⟨b, off, t2, hA, hlo, hhi, hkt2, hcc⟩ := rd_elem DTab.len (hr.old).1.2.1 hln hkn
      obtain rfl : t = t2 := Option.some.inj (hkt.symm.trans hkt2)
      have HCC := Lib.hid (fun (W : World) (hb : Below w.heap.size w W) (j : Nat) (u : Value) (hu : t.cells[j]? = some u) => (World.cell?_of_block (a := ⟨b, off + k * 6 + j, none⟩) (hb.block b hhi)).trans (hcc j u hu))
      generalize (mAllowed x.l3 ext t.s0 kd x.p7 (mClicked t.p4 x.p7) && !mDenied x.l4 ext t.s0 kd) = b2 at CM ⊢
      generalize mClicked t.p4 x.p7 = b3 at CI CM
      have KB0 := Lib.hid (show BoxAt (w.alloc (.cells #[.int .i64 x.p0, .slice x.A1 x.n1 x.c1, .slice x.A2 x.n2 x.c2, .slice x.A3 x.n3 x.c3, .slice x.A4 x.n4 x.c4, .slice x.A5 x.n5 x.c5, .slice x.A6 x.n6 x.c6, .int .i64 x.p7] 40)) w.heap.size 40 #[.int .i64 x.p0, .slice (some ⟨b, off, none⟩) x.n1 x.c1, .slice x.A2 x.n2 x.c2, .slice x.A3 x.n3 x.c3, .slice x.A4 x.n4 x.c4, .slice x.A5 x.n5 x.c5, .slice x.A6 x.n6 x.c6, .int .i64 x.p7] by rw [← hA]; exact box_new w 40 #[.int .i64 x.p0, .slice x.A1 x.n1 x.c1, .slice x.A2 x.n2 x.c2, .slice x.A3 x.n3 x.c3, .slice x.A4 x.n4 x.c4, .slice x.A5 x.n5 x.c5, .slice x.A6 x.n6 x.c6, .int .i64 x.p7])
      rw [hA] at CP
      replace hA := Lib.hid hA

      have HR12 := Lib.hid (Eq.refl b2)
      rw [hA.out] at HB0 KB0 ⊢
      generalize mPackOf x.dat ext = pk at CP hp ⊢
      clear e0 hin hr hz hok hl e1 hat hkt hkt2 hcc htz htz2 hto hts hls HX hln hlo hhi hk hc
      go_enter Tryz.func19, Tryz.ntmps19
      go_wp2_with fail
      refine (CP.out _ HB0.out).mono ?_
      rintro e w1 ⟨rfl, hb1⟩
      have HB1 := Lib.hid (below_trans HB0.out hb1 (by simp))
      have KB1 := Lib.hid (KB0.out.new hb1)
      have k1 := KB1.out.at_ (j := 1) (u := .slice (some ⟨b, off, none⟩) x.n1 x.c1) rfl
      clear hb1
      go_wp2_with fail
      refine (CH.out _).mono ?_
      rintro e w2 ⟨rfl, hb2⟩
      have HB2 := Lib.hid (below_trans HB1.out hb2 (Nat.le_refl _))
      have KB2 := Lib.hid (KB1.out.new hb2)
      clear hb2 k1
      have k1 := KB2.out.at_ (j := 1) (u := .slice (some ⟨b, off, none⟩) x.n1 x.c1) rfl
      have c0 : w2.cell? ⟨b, off + k * 6, none⟩ = some (.int .i64 t.s0.f0) := HCC.out w2 HB2.out 0 _ rfl
      have c1 : w2.cell? ⟨b, off + k * 6 + 1, none⟩ = some (.int .i64 t.s0.f1) := HCC.out w2 HB2.out 1 _ rfl
      have c2 : w2.cell? ⟨b, off + k * 6 + 2, none⟩ = some (.slice t.A1 t.n1 t.c1) := HCC.out w2 HB2.out 2 _ rfl
      have c3 : w2.cell? ⟨b, off + k * 6 + 3, none⟩ = some (.slice t.A2 t.n2 t.c2) := HCC.out w2 HB2.out 3 _ rfl
      have c4 : w2.cell? ⟨b, off + k * 6 + 4, none⟩ = some (.slice t.A3 t.n3 t.c3) := HCC.out w2 HB2.out 4 _ rfl
      have c5 : w2.cell? ⟨b, off + k * 6 + 5, none⟩ = some (.int .i64 t.p4) := HCC.out w2 HB2.out 5 _ rfl
      have KBv := Lib.hid (KB2.out.alloc_ (.cells #[.int .i64 t.s0.f0, .int .i64 t.s0.f1, .slice t.A1 t.n1 t.c1, .slice t.A2 t.n2 t.c2, .slice t.A3 t.n3 t.c3, .int .i64 t.p4] 61))
      have KTv := Lib.hid (box_new w2 61 #[.int .i64 t.s0.f0, .int .i64 t.s0.f1, .slice t.A1 t.n1 t.c1, .slice t.A2 t.n2 t.c2, .slice t.A3 t.n3 t.c3, .int .i64 t.p4])
      have HBv := Lib.hid (HB2.out.alloc HB2.out.size (.cells #[.int .i64 t.s0.f0, .int .i64 t.s0.f1, .slice t.A1 t.n1 t.c1, .slice t.A2 t.n2 t.c2, .slice t.A3 t.n3 t.c3, .int .i64 t.p4] 61))
      go_wp2_with fail
      refine wp_region_held_drew (S := fun w' => BoxAt w' w.heap.size 40 #[.int .i64 x.p0, .slice (some ⟨b, off, none⟩) x.n1 x.c1, .slice x.A2 x.n2 x.c2, .slice x.A3 x.n3 x.c3, .slice x.A4 x.n4 x.c4, .slice x.A5 x.n5 x.c5, .slice x.A6 x.n6 x.c6, .int .i64 x.p7] ∧ BoxAt w' w2.heap.size 61 #[.int .i64 t.s0.f0, .int .i64 t.s0.f1, .slice t.A1 t.n1 t.c1, .slice t.A2 t.n2 t.c2, .slice t.A3 t.n3 t.c3, .int .i64 t.p4] ∧ Below w.heap.size w w') (by kernel_rfl) ?_ (fun hHeld => ?_)
      · exact ⟨KBv.out.drw, KTv.out.drw, HBv.out.drew⟩
      refine wpAnyH_take (i := 0) (oi := ⟨some 28, _, _, _, _, _⟩) (v := ?_) rfl (by kernel_rfl) (by kernel_rfl) (by kernel_rfl) (fun _ _ _ h => h) (Or.inl ⟨by kernel_rfl, ?_⟩) hHeld ?_
      rotate_left
      focus (intro W hS; have c0_0 := (hS.1).at_ (j := 0) rfl; have c0_1 := (hS.1).at_ (j := 1) rfl; have c0_2 := (hS.1).at_ (j := 2) rfl; have c0_3 := (hS.1).at_ (j := 3) rfl; have c0_4 := (hS.1).at_ (j := 4) rfl; have c0_5 := (hS.1).at_ (j := 5) rfl; have c0_6 := (hS.1).at_ (j := 6) rfl; have c0_7 := (hS.1).at_ (j := 7) rfl; have c1_0 := (hS.2.1).at_ (j := 0) rfl; have c1_1 := (hS.2.1).at_ (j := 1) rfl; have c1_2 := (hS.2.1).at_ (j := 2) rfl; have c1_3 := (hS.2.1).at_ (j := 3) rfl; have c1_4 := (hS.2.1).at_ (j := 4) rfl; have c1_5 := (hS.2.1).at_ (j := 5) rfl; clear hS; first | (go_simp; done) | (go_simp; with_reducible rfl))
      try simp only [Act.put, List.setIfInBounds_toArray, List.set_cons_zero, List.set_cons_succ]
      refine wpAnyH_take (i := 1) (oi := ⟨some 29, _, _, _, _, _⟩) (v := ?_) rfl (by kernel_rfl) (by kernel_rfl) (by kernel_rfl) (fun _ _ _ h => h) (Or.inl ⟨by kernel_rfl, ?_⟩) hHeld ?_
      rotate_left
      focus (intro W hS; have c0_0 := (hS.1).at_ (j := 0) rfl; have c0_1 := (hS.1).at_ (j := 1) rfl; have c0_2 := (hS.1).at_ (j := 2) rfl; have c0_3 := (hS.1).at_ (j := 3) rfl; have c0_4 := (hS.1).at_ (j := 4) rfl; have c0_5 := (hS.1).at_ (j := 5) rfl; have c0_6 := (hS.1).at_ (j := 6) rfl; have c0_7 := (hS.1).at_ (j := 7) rfl; have c1_0 := (hS.2.1).at_ (j := 0) rfl; have c1_1 := (hS.2.1).at_ (j := 1) rfl; have c1_2 := (hS.2.1).at_ (j := 2) rfl; have c1_3 := (hS.2.1).at_ (j := 3) rfl; have c1_4 := (hS.2.1).at_ (j := 4) rfl; have c1_5 := (hS.2.1).at_ (j := 5) rfl; clear hS; first | (go_simp; done) | (go_simp; with_reducible rfl))
      try simp only [Act.put, List.setIfInBounds_toArray, List.set_cons_zero, List.set_cons_succ]
      refine wpAnyH_take (i := 2) (oi := ⟨some 30, _, _, _, _, _⟩) (v := ?_) rfl (by kernel_rfl) (by kernel_rfl) (by kernel_rfl) (fun _ _ _ h => h) (Or.inl ⟨by kernel_rfl, ?_⟩) hHeld ?_
      rotate_left
      focus (intro W hS; have c0_0 := (hS.1).at_ (j := 0) rfl; have c0_1 := (hS.1).at_ (j := 1) rfl; have c0_2 := (hS.1).at_ (j := 2) rfl; have c0_3 := (hS.1).at_ (j := 3) rfl; have c0_4 := (hS.1).at_ (j := 4) rfl; have c0_5 := (hS.1).at_ (j := 5) rfl; have c0_6 := (hS.1).at_ (j := 6) rfl; have c0_7 := (hS.1).at_ (j := 7) rfl; have c1_0 := (hS.2.1).at_ (j := 0) rfl; have c1_1 := (hS.2.1).at_ (j := 1) rfl; have c1_2 := (hS.2.1).at_ (j := 2) rfl; have c1_3 := (hS.2.1).at_ (j := 3) rfl; have c1_4 := (hS.2.1).at_ (j := 4) rfl; have c1_5 := (hS.2.1).at_ (j := 5) rfl; clear hS; first | (go_simp; done) | (go_simp; with_reducible rfl))
      try simp only [Act.put, List.setIfInBounds_toArray, List.set_cons_zero, List.set_cons_succ]
      refine wpAnyH_take (i := 3) (oi := ⟨some 31, _, _, _, _, _⟩) (v := ?_) rfl (by kernel_rfl) (by kernel_rfl) (by kernel_rfl) (fun _ _ _ h => h) (Or.inl ⟨by kernel_rfl, ?_⟩) hHeld ?_
      rotate_left
      focus (intro W hS; have c0_0 := (hS.1).at_ (j := 0) rfl; have c0_1 := (hS.1).at_ (j := 1) rfl; have c0_2 := (hS.1).at_ (j := 2) rfl; have c0_3 := (hS.1).at_ (j := 3) rfl; have c0_4 := (hS.1).at_ (j := 4) rfl; have c0_5 := (hS.1).at_ (j := 5) rfl; have c0_6 := (hS.1).at_ (j := 6) rfl; have c0_7 := (hS.1).at_ (j := 7) rfl; have c1_0 := (hS.2.1).at_ (j := 0) rfl; have c1_1 := (hS.2.1).at_ (j := 1) rfl; have c1_2 := (hS.2.1).at_ (j := 2) rfl; have c1_3 := (hS.2.1).at_ (j := 3) rfl; have c1_4 := (hS.2.1).at_ (j := 4) rfl; have c1_5 := (hS.2.1).at_ (j := 5) rfl; clear hS; first | (go_simp; done) | (go_simp; with_reducible rfl))
      try simp only [Act.put, List.setIfInBounds_toArray, List.set_cons_zero, List.set_cons_succ]
      refine wpAnyH_take (i := 4) (oi := ⟨some 32, _, _, _, _, _⟩) (v := ?_) rfl (by kernel_rfl) (by kernel_rfl) (by kernel_rfl) (fun _ _ _ h => h) (Or.inl ⟨by kernel_rfl, ?_⟩) hHeld ?_
      rotate_left
      focus (intro W hS; have c0_0 := (hS.1).at_ (j := 0) rfl; have c0_1 := (hS.1).at_ (j := 1) rfl; have c0_2 := (hS.1).at_ (j := 2) rfl; have c0_3 := (hS.1).at_ (j := 3) rfl; have c0_4 := (hS.1).at_ (j := 4) rfl; have c0_5 := (hS.1).at_ (j := 5) rfl; have c0_6 := (hS.1).at_ (j := 6) rfl; have c0_7 := (hS.1).at_ (j := 7) rfl; have c1_0 := (hS.2.1).at_ (j := 0) rfl; have c1_1 := (hS.2.1).at_ (j := 1) rfl; have c1_2 := (hS.2.1).at_ (j := 2) rfl; have c1_3 := (hS.2.1).at_ (j := 3) rfl; have c1_4 := (hS.2.1).at_ (j := 4) rfl; have c1_5 := (hS.2.1).at_ (j := 5) rfl; clear hS; first | (go_simp; done) | (go_simp; with_reducible rfl))
      try simp only [Act.put, List.setIfInBounds_toArray, List.set_cons_zero, List.set_cons_succ]
      refine wpAnyH_take (i := 5) (oi := ⟨some 33, _, _, _, _, _⟩) (v := ?_) rfl (by kernel_rfl) (by kernel_rfl) (by kernel_rfl) (fun _ _ _ h => h) (Or.inl ⟨by kernel_rfl, ?_⟩) hHeld ?_
      rotate_left
      focus (intro W hS; have c0_0 := (hS.1).at_ (j := 0) rfl; have c0_1 := (hS.1).at_ (j := 1) rfl; have c0_2 := (hS.1).at_ (j := 2) rfl; have c0_3 := (hS.1).at_ (j := 3) rfl; have c0_4 := (hS.1).at_ (j := 4) rfl; have c0_5 := (hS.1).at_ (j := 5) rfl; have c0_6 := (hS.1).at_ (j := 6) rfl; have c0_7 := (hS.1).at_ (j := 7) rfl; have c1_0 := (hS.2.1).at_ (j := 0) rfl; have c1_1 := (hS.2.1).at_ (j := 1) rfl; have c1_2 := (hS.2.1).at_ (j := 2) rfl; have c1_3 := (hS.2.1).at_ (j := 3) rfl; have c1_4 := (hS.2.1).at_ (j := 4) rfl; have c1_5 := (hS.2.1).at_ (j := 5) rfl; clear hS; first | (go_simp; done) | (go_simp; with_reducible rfl))
      try simp only [Act.put, List.setIfInBounds_toArray, List.set_cons_zero, List.set_cons_succ]
      refine wpAnyH_take (i := 6) (oi := ⟨some 34, _, _, _, _, _⟩) (v := ?_) rfl (by kernel_rfl) (by kernel_rfl) (by kernel_rfl) (fun _ _ _ h => h) (Or.inl ⟨by kernel_rfl, ?_⟩) hHeld ?_
      rotate_left
      focus (intro W hS; have c0_0 := (hS.1).at_ (j := 0) rfl; have c0_1 := (hS.1).at_ (j := 1) rfl; have c0_2 := (hS.1).at_ (j := 2) rfl; have c0_3 := (hS.1).at_ (j := 3) rfl; have c0_4 := (hS.1).at_ (j := 4) rfl; have c0_5 := (hS.1).at_ (j := 5) rfl; have c0_6 := (hS.1).at_ (j := 6) rfl; have c0_7 := (hS.1).at_ (j := 7) rfl; have c1_0 := (hS.2.1).at_ (j := 0) rfl; have c1_1 := (hS.2.1).at_ (j := 1) rfl; have c1_2 := (hS.2.1).at_ (j := 2) rfl; have c1_3 := (hS.2.1).at_ (j := 3) rfl; have c1_4 := (hS.2.1).at_ (j := 4) rfl; have c1_5 := (hS.2.1).at_ (j := 5) rfl; clear hS; first | (go_simp; done) | (go_simp; with_reducible rfl))
      try simp only [Act.put, List.setIfInBounds_toArray, List.set_cons_zero, List.set_cons_succ]
      refine wpAnyH_take (i := 7) (oi := ⟨some 35, _, _, _, _, _⟩) (v := ?_) rfl (by kernel_rfl) (by kernel_rfl) (by kernel_rfl) (fun _ _ _ h => h) (Or.inl ⟨by kernel_rfl, ?_⟩) hHeld ?_
      rotate_left
      focus (intro W hS; have c0_0 := (hS.1).at_ (j := 0) rfl; have c0_1 := (hS.1).at_ (j := 1) rfl; have c0_2 := (hS.1).at_ (j := 2) rfl; have c0_3 := (hS.1).at_ (j := 3) rfl; have c0_4 := (hS.1).at_ (j := 4) rfl; have c0_5 := (hS.1).at_ (j := 5) rfl; have c0_6 := (hS.1).at_ (j := 6) rfl; have c0_7 := (hS.1).at_ (j := 7) rfl; have c1_0 := (hS.2.1).at_ (j := 0) rfl; have c1_1 := (hS.2.1).at_ (j := 1) rfl; have c1_2 := (hS.2.1).at_ (j := 2) rfl; have c1_3 := (hS.2.1).at_ (j := 3) rfl; have c1_4 := (hS.2.1).at_ (j := 4) rfl; have c1_5 := (hS.2.1).at_ (j := 5) rfl; clear hS; first | (go_simp; done) | (go_simp; with_reducible rfl))
      try simp only [Act.put, List.setIfInBounds_toArray, List.set_cons_zero, List.set_cons_succ]
      refine wpAnyH_take (i := 8) (oi := ⟨some 36, _, _, _, _, _⟩) (v := ?_) rfl (by kernel_rfl) (by kernel_rfl) (by kernel_rfl) (fun _ _ _ h => h) (Or.inl ⟨by kernel_rfl, ?_⟩) hHeld ?_
      rotate_left
      focus (intro W hS; have c0_0 := (hS.1).at_ (j := 0) rfl; have c0_1 := (hS.1).at_ (j := 1) rfl; have c0_2 := (hS.1).at_ (j := 2) rfl; have c0_3 := (hS.1).at_ (j := 3) rfl; have c0_4 := (hS.1).at_ (j := 4) rfl; have c0_5 := (hS.1).at_ (j := 5) rfl; have c0_6 := (hS.1).at_ (j := 6) rfl; have c0_7 := (hS.1).at_ (j := 7) rfl; have c1_0 := (hS.2.1).at_ (j := 0) rfl; have c1_1 := (hS.2.1).at_ (j := 1) rfl; have c1_2 := (hS.2.1).at_ (j := 2) rfl; have c1_3 := (hS.2.1).at_ (j := 3) rfl; have c1_4 := (hS.2.1).at_ (j := 4) rfl; have c1_5 := (hS.2.1).at_ (j := 5) rfl; clear hS; first | (go_simp; done) | (go_simp; with_reducible rfl))
      try simp only [Act.put, List.setIfInBounds_toArray, List.set_cons_zero, List.set_cons_succ]
      refine wpAnyH_take (i := 9) (oi := ⟨some 37, _, _, _, _, _⟩) (v := ?_) rfl (by kernel_rfl) (by kernel_rfl) (by kernel_rfl) (fun _ _ _ h => h) (Or.inl ⟨by kernel_rfl, ?_⟩) hHeld ?_
      rotate_left
      focus (intro W hS; have c0_0 := (hS.1).at_ (j := 0) rfl; have c0_1 := (hS.1).at_ (j := 1) rfl; have c0_2 := (hS.1).at_ (j := 2) rfl; have c0_3 := (hS.1).at_ (j := 3) rfl; have c0_4 := (hS.1).at_ (j := 4) rfl; have c0_5 := (hS.1).at_ (j := 5) rfl; have c0_6 := (hS.1).at_ (j := 6) rfl; have c0_7 := (hS.1).at_ (j := 7) rfl; have c1_0 := (hS.2.1).at_ (j := 0) rfl; have c1_1 := (hS.2.1).at_ (j := 1) rfl; have c1_2 := (hS.2.1).at_ (j := 2) rfl; have c1_3 := (hS.2.1).at_ (j := 3) rfl; have c1_4 := (hS.2.1).at_ (j := 4) rfl; have c1_5 := (hS.2.1).at_ (j := 5) rfl; clear hS; first | (go_simp; done) | (go_simp; with_reducible rfl))
      try simp only [Act.put, List.setIfInBounds_toArray, List.set_cons_zero, List.set_cons_succ]
      refine wpAnyH_take (i := 10) (oi := ⟨some 38, _, _, _, _, _⟩) (v := ?_) rfl (by kernel_rfl) (by kernel_rfl) (by kernel_rfl) (fun _ _ _ h => h) (Or.inl ⟨by kernel_rfl, ?_⟩) hHeld ?_
      rotate_left
      focus (intro W hS; have c0_0 := (hS.1).at_ (j := 0) rfl; have c0_1 := (hS.1).at_ (j := 1) rfl; have c0_2 := (hS.1).at_ (j := 2) rfl; have c0_3 := (hS.1).at_ (j := 3) rfl; have c0_4 := (hS.1).at_ (j := 4) rfl; have c0_5 := (hS.1).at_ (j := 5) rfl; have c0_6 := (hS.1).at_ (j := 6) rfl; have c0_7 := (hS.1).at_ (j := 7) rfl; have c1_0 := (hS.2.1).at_ (j := 0) rfl; have c1_1 := (hS.2.1).at_ (j := 1) rfl; have c1_2 := (hS.2.1).at_ (j := 2) rfl; have c1_3 := (hS.2.1).at_ (j := 3) rfl; have c1_4 := (hS.2.1).at_ (j := 4) rfl; have c1_5 := (hS.2.1).at_ (j := 5) rfl; clear hS; first | (go_simp; done) | (go_simp; with_reducible rfl))
      try simp only [Act.put, List.setIfInBounds_toArray, List.set_cons_zero, List.set_cons_succ]
      refine wpAnyH_take (i := 11) (oi := ⟨some 39, _, _, _, _, _⟩) (v := ?_) rfl (by kernel_rfl) (by kernel_rfl) (by kernel_rfl) (fun _ _ _ h => h) (Or.inl ⟨by kernel_rfl, ?_⟩) hHeld ?_
      rotate_left
      focus (intro W hS; have c0_0 := (hS.1).at_ (j := 0) rfl; have c0_1 := (hS.1).at_ (j := 1) rfl; have c0_2 := (hS.1).at_ (j := 2) rfl; have c0_3 := (hS.1).at_ (j := 3) rfl; have c0_4 := (hS.1).at_ (j := 4) rfl; have c0_5 := (hS.1).at_ (j := 5) rfl; have c0_6 := (hS.1).at_ (j := 6) rfl; have c0_7 := (hS.1).at_ (j := 7) rfl; have c1_0 := (hS.2.1).at_ (j := 0) rfl; have c1_1 := (hS.2.1).at_ (j := 1) rfl; have c1_2 := (hS.2.1).at_ (j := 2) rfl; have c1_3 := (hS.2.1).at_ (j := 3) rfl; have c1_4 := (hS.2.1).at_ (j := 4) rfl; have c1_5 := (hS.2.1).at_ (j := 5) rfl; clear hS; first | (go_simp; done) | (go_simp; with_reducible rfl))
      try simp only [Act.put, List.setIfInBounds_toArray, List.set_cons_zero, List.set_cons_succ]
      refine wpAnyH_take (i := 12) (oi := ⟨some 40, _, _, _, _, _⟩) (v := ?_) rfl (by kernel_rfl) (by kernel_rfl) (by kernel_rfl) (fun _ _ _ h => h) (Or.inl ⟨by kernel_rfl, ?_⟩) hHeld ?_
      rotate_left
      focus (intro W hS; have c0_0 := (hS.1).at_ (j := 0) rfl; have c0_1 := (hS.1).at_ (j := 1) rfl; have c0_2 := (hS.1).at_ (j := 2) rfl; have c0_3 := (hS.1).at_ (j := 3) rfl; have c0_4 := (hS.1).at_ (j := 4) rfl; have c0_5 := (hS.1).at_ (j := 5) rfl; have c0_6 := (hS.1).at_ (j := 6) rfl; have c0_7 := (hS.1).at_ (j := 7) rfl; have c1_0 := (hS.2.1).at_ (j := 0) rfl; have c1_1 := (hS.2.1).at_ (j := 1) rfl; have c1_2 := (hS.2.1).at_ (j := 2) rfl; have c1_3 := (hS.2.1).at_ (j := 3) rfl; have c1_4 := (hS.2.1).at_ (j := 4) rfl; have c1_5 := (hS.2.1).at_ (j := 5) rfl; clear hS; first | (go_simp; done) | (go_simp; with_reducible rfl))
      try simp only [Act.put, List.setIfInBounds_toArray, List.set_cons_zero, List.set_cons_succ]
      refine wpAnyH_ready (rs := [13]) (by kernel_rfl) (by simp) ?_
      refine AllReadyH.cons (o := ⟨some 41, _, _, _, _, _⟩) rfl (fun K hK => ?_) AllReadyH.nil
      go_simp
      refine Calls.mono (CI.out _ hHeld.2.2) ?_
      rintro e x1 ⟨rfl, hb1⟩
      refine hK.out _ _ ⟨hHeld.1.new hb1, hHeld.2.1.new hb1, below_trans hHeld.2.2 hb1 (Nat.le_refl _)⟩ (fun hHeld' => ?_)
      clear hK K hHeld hb1
      have hHeld := hHeld'
      clear hHeld'
      try simp only [Act.put, List.setIfInBounds_toArray, List.set_cons_zero, List.set_cons_succ]
      refine wpAnyH_ready (rs := [14]) (by kernel_rfl) (by simp) ?_
      refine AllReadyH.cons (o := ⟨some 42, _, _, _, _, _⟩) rfl (fun K hK => ?_) AllReadyH.nil
      go_simp
      refine Calls.mono (CM.out _ hHeld.2.2) ?_
      rintro e x2 ⟨rfl, hb1⟩
      refine hK.out _ _ ⟨hHeld.1.new hb1, hHeld.2.1.new hb1, below_trans hHeld.2.2 hb1 (Nat.le_refl _)⟩ (fun hHeld' => ?_)
      clear hK K hHeld hb1
      have hHeld := hHeld'
      clear hHeld'
      try simp only [Act.put, List.setIfInBounds_toArray, List.set_cons_zero, List.set_cons_succ]
      refine wpAnyH_take (i := 15) (oi := ⟨some 8, _, _, _, _, _⟩) (v := ?_) rfl (by kernel_rfl) (by kernel_rfl) (by kernel_rfl) (fun _ _ _ h => h) (Or.inl ⟨by kernel_rfl, ?_⟩) hHeld ?_
      rotate_left
      focus (intro W hS; have c0_0 := (hS.1).at_ (j := 0) rfl; have c0_1 := (hS.1).at_ (j := 1) rfl; have c0_2 := (hS.1).at_ (j := 2) rfl; have c0_3 := (hS.1).at_ (j := 3) rfl; have c0_4 := (hS.1).at_ (j := 4) rfl; have c0_5 := (hS.1).at_ (j := 5) rfl; have c0_6 := (hS.1).at_ (j := 6) rfl; have c0_7 := (hS.1).at_ (j := 7) rfl; have c1_0 := (hS.2.1).at_ (j := 0) rfl; have c1_1 := (hS.2.1).at_ (j := 1) rfl; have c1_2 := (hS.2.1).at_ (j := 2) rfl; have c1_3 := (hS.2.1).at_ (j := 3) rfl; have c1_4 := (hS.2.1).at_ (j := 4) rfl; have c1_5 := (hS.2.1).at_ (j := 5) rfl; clear hS; first | (go_simp; done) | (go_simp; with_reducible rfl))
      try simp only [Act.put, List.setIfInBounds_toArray, List.set_cons_zero, List.set_cons_succ]
      refine wpAnyH_done (by kernel_rfl) ?_ _
      have HBq := Lib.hid hHeld.2.2
      go_wp2_with fail
      go_ret
      exact ⟨rfl, HBq.out⟩

end Go.Proofs.YtjgcgipglmhgeaaGreat
