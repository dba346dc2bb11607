/- DrawEndLending. No condition of its own. -/
import Derived.Test.YtfceddgacefejaaDrH
import Derived.Test.YtfceddgacefejaaRLTo
import Derived.Deep.Cut
import Derived.Deep.RegionHeld3
namespace Go.Proofs.Ytfceddgacefejaa
open Go Go.ChangeShapes Go.WideShapes Go.ChangeAt Go.RowKit Go.Lib
set_option linter.unusedVariables false
set_option linter.unusedSimpArgs false
set_option maxRecDepth 100000
theorem lt_len (l : List TGrant) (e : Int) (s : TSite) (t : Int) : (mLT l e s t).length ≤ l.length + 2 := by
  unfold mLT mLTX
  split
  · rw [List.length_append]
    have h1 := mMiss_len l (mLend e s t)
    have h2 := mLend_len e s t
    omega
  · omega
theorem lt_fit (l : List TGrant) (e : Int) (s : TSite) (t : Int) (H : Hid (cGrantOk l)) (h1 : 0 ≤ e) (h2 : e ≤ 9) (hs : s.fit) (h3 : 0 ≤ t) (h4 : t ≤ 99) : ∀ x ∈ mLT l e s t, TGrant.fit x := by
  intro x hx
  unfold mLT mLTX at hx
  split at hx
  · rcases List.mem_append.1 hx with hx | hx
    · exact H.out x hx
    · have hx := (List.mem_filter.1 hx).1
      unfold mLend at hx
      split at hx
      · simp only [List.mem_cons, List.not_mem_nil, or_false] at hx
        unfold TSite.fit at hs
        rcases hx with rfl | rfl <;> (unfold TGrant.fit lent1; simp only; omega)
      · cases hx
  · exact H.out x hx
/-- A list of grants of the draw's own and a site are drawn. -/
def DrawnEL (w : World) (e : Ending) (w' : World) : Prop :=
  ∃ (v : Value) (l : List TGrant) (s : TSite), e = .returned (.tuple #[v, .agg #[.int .i64 s.f0, .int .i64 s.f1]]) ∧ l.length ≤ 10 ∧ (∀ y ∈ l, y.fit) ∧ s.fit ∧ w'.ownsRow w.heap.size 35 7 v l.length (l.flatMap TGrant.cells) ∧ Below w.heap.size w w'
set_option maxHeartbeats 16000000 in
theorem drawEL_any (n cap : Nat) (A : Option Addr) (w : World) (hn : n ≤ 140737488355328) (hb : BytesAt w w.heap.size A n) :
    Calls Try.prog 125 #[.slice A n cap] w (DrawnEL w) := by
  have hn' : n ≤ maxLen := by unfold maxLen; omega
  have HY := Lib.hid hb
  have R0 := Lib.hid (show BoxAt (w.alloc (.cells #[.int .i64 0, .int .i64 0] 27)) w.heap.size 27 #[.int .i64 0, .int .i64 0] from by simpa using box_new w 27 #[.int .i64 0, .int .i64 0])
  have HB := Lib.hid ((Below.refl w.heap.size w).alloc (by first | exact Nat.le_refl _ | (simp; done) | (simp; omega)) (.cells #[.int .i64 0, .int .i64 0] 27))
  clear hb
  go_enter Try.func125, Try.ntmps125
  go_wp2_with fail
  refine Calls.mono (dr_new n cap A w _ (w.heap.size + 1) (by simp) hn HY.out HB.out) ?_
  rintro e w1 ⟨rfl, hc, hb1⟩
  have HC := Lib.hid hc
  replace R0 := Lib.hid (dr_box_low R0.out hb1 (by omega))
  replace HB := Lib.hid (HB.out.trans (hb1.mono (by omega)))
  have l1 : (w.heap.size + 1) < w1.heap.size := HC.out.lt
  clear hc hb1
  go_wp2_with fail
  refine Calls.mono (grants_any (w.heap.size + 1) n cap A _ hn' HC.out) ?_
  rintro e w2 ⟨v, l, rfl, hl, hu, ho, hc, hg⟩
  have s12 : w1.heap.size ≤ w2.heap.size := hg.size
  replace R0 := Lib.hid (R0.out.grown hg (by omega))
  replace HB := Lib.hid (dr_below HB.out (by omega) hg)
  replace HC := Lib.hid hc
  have l2 : (w.heap.size + 1) < w2.heap.size := HC.out.lt
  clear hc hg
  have HO := Lib.hid ho
  have HU := Lib.hid hu
  clear ho hu
  obtain ⟨A', c', rfl, hF⟩ := fr_of_own HO.out
  have HF := Lib.hid hF
  clear hF
  go_wp2_with fail
  refine Calls.mono (below_any (w.heap.size + 1) n cap A 3 _ hn' HC.out (by omega) (by omega)) ?_
  rintro e w3 ⟨y1, hya1, hyb1, rfl, hc, hg⟩
  have s3_ : w2.heap.size ≤ w3.heap.size := hg.size
  replace R0 := Lib.hid (R0.out.grown hg (by omega))
  replace HO := Lib.hid (dr_own HO.out (by omega) hg)
  replace HB := Lib.hid (dr_below HB.out (by omega) hg)
  replace HC := Lib.hid hc
  have l3 : (w.heap.size + 1) < w3.heap.size := HC.out.lt
  clear hc hg
  go_wp2_with fail
  refine Calls.mono (site_any (w.heap.size + 1) n cap A _ hn' HC.out) ?_
  rintro e w4 ⟨s1, hs1, rfl, hc, hg⟩
  have s4_ : w3.heap.size ≤ w4.heap.size := hg.size
  replace R0 := Lib.hid (R0.out.grown hg (by omega))
  replace HO := Lib.hid (dr_own HO.out (by omega) hg)
  replace HB := Lib.hid (dr_below HB.out (by omega) hg)
  replace HC := Lib.hid hc
  have l4 : (w.heap.size + 1) < w4.heap.size := HC.out.lt
  clear hc hg
  go_wp2_with fail
  refine Calls.mono (below_any (w.heap.size + 1) n cap A 9 _ hn' HC.out (by omega) (by omega)) ?_
  rintro e w5 ⟨t1, hta1, htb1, rfl, hc, hg⟩
  have s5_ : w4.heap.size ≤ w5.heap.size := hg.size
  replace R0 := Lib.hid (R0.out.grown hg (by omega))
  replace HO := Lib.hid (dr_own HO.out (by omega) hg)
  replace HB := Lib.hid (dr_below HB.out (by omega) hg)
  replace HC := Lib.hid hc
  have l5 : (w.heap.size + 1) < w5.heap.size := HC.out.lt
  clear hc hg
  have HRl := Lib.hid (show Rd w5 w1.heap.size w5.heap.size 7 A' l.length (cGrant l) from by
    obtain ⟨A2, c2, hv2, hF⟩ := fr_of_own HO.out
    injection hv2 with q1 q2 q3
    subst q1
    exact hF.rd)
  go_wp2_with fail
  refine Calls.mono (spec_LendToO l A' l.length c' _ _ (1 + y1) s1 t1 _ (by omega) HRl.out HU) ?_
  rintro e w6 ⟨v1, rfl, ho2, hb2⟩
  replace R0 := Lib.hid (R0.out.new hb2)
  replace HB := Lib.hid (below_trans HB.out hb2 (Nat.le_refl _))
  replace HC := Lib.hid (dr_cur_low HC.out l5 hb2)
  have l6 : (w.heap.size + 1) < w6.heap.size := HC.out.lt
  have s6_ : w5.heap.size ≤ w6.heap.size := hb2.size
  replace HO := Lib.hid (dr_own_base (B' := w1.heap.size) ho2 (by omega))
  have HUN := Lib.hid (lt_fit l (1 + y1) s1 t1 HU (by omega) (by omega) hs1 (by omega) (by omega))
  have hlen1 := lt_len l (1 + y1) s1 t1
  generalize mLT l (1 + y1) s1 t1 = m at HO HUN hlen1
  clear ho2 hb2 HRl HU HF
  have HU := HUN
  clear HUN
  obtain ⟨A', c', rfl, hF⟩ := fr_of_own HO.out
  have HF := Lib.hid hF
  clear hF
  have hlm : m.length ≤ l.length + 2 := hlen1
  have hl1 : m.length ≤ 8 := by omega
  clear hlm hlen1 hl
  have hl := hl1
  clear hl1
  obtain ⟨l, hlm⟩ : ∃ l, l = m := ⟨_, rfl⟩
  subst hlm
  go_wp2_with fail
  refine Calls.mono (below_any (w.heap.size + 1) n cap A 3 _ hn' HC.out (by omega) (by omega)) ?_
  rintro e w7 ⟨y2, hya2, hyb2, rfl, hc, hg⟩
  have s7_ : w6.heap.size ≤ w7.heap.size := hg.size
  replace R0 := Lib.hid (R0.out.grown hg (by omega))
  replace HO := Lib.hid (dr_own HO.out (by omega) hg)
  replace HB := Lib.hid (dr_below HB.out (by omega) hg)
  replace HC := Lib.hid hc
  have l7 : (w.heap.size + 1) < w7.heap.size := HC.out.lt
  clear hc hg
  go_wp2_with fail
  refine Calls.mono (site_any (w.heap.size + 1) n cap A _ hn' HC.out) ?_
  rintro e w8 ⟨s2, hs2, rfl, hc, hg⟩
  have s8_ : w7.heap.size ≤ w8.heap.size := hg.size
  replace R0 := Lib.hid (R0.out.grown hg (by omega))
  replace HO := Lib.hid (dr_own HO.out (by omega) hg)
  replace HB := Lib.hid (dr_below HB.out (by omega) hg)
  replace HC := Lib.hid hc
  have l8 : (w.heap.size + 1) < w8.heap.size := HC.out.lt
  clear hc hg
  go_wp2_with fail
  refine Calls.mono (below_any (w.heap.size + 1) n cap A 9 _ hn' HC.out (by omega) (by omega)) ?_
  rintro e w9 ⟨t2, hta2, htb2, rfl, hc, hg⟩
  have s9_ : w8.heap.size ≤ w9.heap.size := hg.size
  replace R0 := Lib.hid (R0.out.grown hg (by omega))
  replace HO := Lib.hid (dr_own HO.out (by omega) hg)
  replace HB := Lib.hid (dr_below HB.out (by omega) hg)
  replace HC := Lib.hid hc
  have l9 : (w.heap.size + 1) < w9.heap.size := HC.out.lt
  clear hc hg
  have HRl := Lib.hid (show Rd w9 w1.heap.size w9.heap.size 7 A' l.length (cGrant l) from by
    obtain ⟨A2, c2, hv2, hF⟩ := fr_of_own HO.out
    injection hv2 with q1 q2 q3
    subst q1
    exact hF.rd)
  go_wp2_with fail
  refine Calls.mono (spec_LendToO l A' l.length c' _ _ (1 + y2) s2 t2 _ (by omega) HRl.out HU) ?_
  rintro e w10 ⟨v2, rfl, ho2, hb2⟩
  replace R0 := Lib.hid (R0.out.new hb2)
  replace HB := Lib.hid (below_trans HB.out hb2 (Nat.le_refl _))
  replace HC := Lib.hid (dr_cur_low HC.out l9 hb2)
  have l10 : (w.heap.size + 1) < w10.heap.size := HC.out.lt
  have s10_ : w9.heap.size ≤ w10.heap.size := hb2.size
  replace HO := Lib.hid (dr_own_base (B' := w1.heap.size) ho2 (by omega))
  have HUN := Lib.hid (lt_fit l (1 + y2) s2 t2 HU (by omega) (by omega) hs2 (by omega) (by omega))
  have hlen2 := lt_len l (1 + y2) s2 t2
  generalize mLT l (1 + y2) s2 t2 = m at HO HUN hlen2
  clear ho2 hb2 HRl HU HF
  have HU := HUN
  clear HUN
  obtain ⟨A', c', rfl, hF⟩ := fr_of_own HO.out
  have HF := Lib.hid hF
  clear hF
  have hlm : m.length ≤ l.length + 2 := hlen2
  have hl2 : m.length ≤ 10 := by omega
  clear hlm hlen2 hl
  have hl := hl2
  clear hl2
  obtain ⟨l, hlm⟩ : ∃ l, l = m := ⟨_, rfl⟩
  subst hlm
  go_wp2_with fail
  refine Calls.mono (site_any (w.heap.size + 1) n cap A _ hn' HC.out) ?_
  rintro e w11 ⟨s, hs, rfl, hc, hg⟩
  replace R0 := Lib.hid (R0.out.grown hg (by omega))
  replace HO := Lib.hid (dr_own HO.out (by omega) hg)
  replace HB := Lib.hid (dr_below HB.out (by omega) hg)
  replace HC := Lib.hid hc
  have l11 : (w.heap.size + 1) < w11.heap.size := HC.out.lt
  clear hc hg
  obtain ⟨x9, hx⟩ : ∃ X, X = World.setRow w11 w.heap.size #[.int .i64 s.f0, .int .i64 s.f1] := ⟨_, rfl⟩
  have HX9 := Lib.hid hx
  have OLD9 := R0
  replace R0 := Lib.hid (show BoxAt x9 w.heap.size 27 #[.int .i64 s.f0, .int .i64 s.f1] by rw [hx]; exact box_row OLD9.out)
  have HOE := Lib.hid (show x9.ownsRow w.heap.size 35 7 (Value.slice A' l.length c') l.length (l.flatMap TGrant.cells) by rw [hx]; exact dr_own_base (own_row HO.out (by omega) _) (by omega))
  replace HB := Lib.hid (show Below w.heap.size w x9 by rw [hx]; exact below_setRow HB.out (Nat.le_refl _) _)
  clear hx HO HC
  go_wp2_with (refine wpList_store_row rfl 27 _ _ rfl w.heap.size #[.int .i64 s.f0, .int .i64 s.f1] rfl rfl 27 _ OLD9.out (by kernel_rfl) (by kernel_rfl) (by kernel_rfl) ?_; rw [← HX9.out]; clear HX9 OLD9)
  have p0 := R0.out.at_ (j := 0) rfl
  have p1 := R0.out.at_ (j := 1) rfl
  exact bodyPost_ret (v := .tuple #[.slice A' l.length c', .agg #[.int .i64 s.f0, .int .i64 s.f1]]) (by simp [results, Try.results125, go_sem, p0, p1]) rfl ⟨_, l, s, rfl, hl, HU.out, hs, HOE.out, HB.out⟩
end Go.Proofs.Ytfceddgacefejaa
