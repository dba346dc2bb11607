/- FollowRequest of the model. -/
import Derived.Test.YtafekceggpbnlaaFolI
import Derived.Deep.RegionHeld3
import Derived.Deep.LoopGhost
namespace Go.Proofs.Ytafekceggpbnlaa
open Go Go.ChangeShapes Go.WideShapes Go.ChangeAt Go.RowKit Go.Lib
set_option linter.unusedVariables false
set_option linter.unusedSimpArgs false
set_option maxRecDepth 100000
set_option maxHeartbeats 4000000 in
theorem spec_l18Has (z : TSite) (l : List TSite) (A : Option Addr) (n c lo hi : Nat) (X : Bool) (w : World) (hn : n ≤ 17592186044416) (hr : Rd w lo hi 2 A n (cSite l)) (hX : Hid (decide (z ∈ l) = X)) :
    Calls Try.prog 26 #[.slice A n c, vSite z] w (Says (.bool X) w) := by
  have HL := Lib.hid (rd_len TSite.len hr (by decide))
  have HR := Lib.hid hr
  have HBx := Lib.hid (box_new w 28 #[.int .i64 z.f0, .int .i64 z.f1])
  clear hr
  go_enter Try.func26, Try.ntmps26
  go_wp2_with fail
  go_loopg [5] n (fun gg i wr => ∃ k : Nat, k ≤ n ∧ n - k ≤ gg ∧ i = .int .i64 k ∧ Hid (Below w.heap.size w wr) ∧ Hid (BoxAt wr w.heap.size 28 #[.int .i64 z.f0, .int .i64 z.f1]) ∧ Hid (¬ z ∈ l.take k))
  case atStart => exact ⟨0, Nat.zero_le _, by omega, rfl, Lib.hid ((Below.refl _ _).alloc (Nat.le_refl _) _), HBx, Lib.hid (by simp)⟩
  case round =>
    obtain ⟨k, hk, hg, rfl, HB, HX, HF⟩ := hrel
    by_cases hlt : k < n
    · obtain ⟨b, off, x, rfl, _, _, hz, hc⟩ := rd_elem TSite.len (HR.out.new HB.out) HL.out hlt
      have c0 : wr.cell? ⟨b, off + k * 2, none⟩ = _ := hc 0 _ rfl
      have c1 := hc 1 _ rfl
      have d0 : wr.cell? ⟨w.heap.size, 0, none⟩ = _ := HX.out.at_ rfl
      have d1 : wr.cell? ⟨w.heap.size, 1, none⟩ = _ := HX.out.at_ rfl
      have HZ := Lib.hid hz
      clear hz hc
      by_cases e : x = z
      · have g1 : ∀ w, _ := fun w => (eql_Site x z w).trans (by rw [decide_eq_true e])
        have HE := Lib.hid (show X = true by rw [← hX.out, decide_eq_true (by rw [← e]; exact List.mem_of_getElem? HZ.out)])
        clear e
        go_wp2_with fail
        go_quiet (fail)
        go_wp2_with fail
        go_ret
        exact ⟨by rw [HE.out]; rfl, by first | exact below_dN HB.out _ | exact HB.out⟩
      · have g1 : ∀ w, _ := fun w => (eql_Site x z w).trans (by rw [decide_eq_false e])
        have HE := Lib.hid (show ¬ z ∈ l.take (k + 1) by
          rw [List.take_add_one, HZ.out, Option.toList_some, List.mem_append, List.mem_singleton]
          rintro (h | h)
          · exact HF.out h
          · exact e h.symm)
        clear e
        go_wp2_with fail
        go_quiet (fail)
        go_wp2_with fail
        go_roundg (n - (k + 1))
        case measure => omega
        case rel => exact ⟨k + 1, by omega, by omega, by go_num, Lib.hid (below_dN HB.out _), Lib.hid HX.out, HE⟩
    · obtain rfl : k = n := by omega
      have HE := Lib.hid (show X = false by rw [← hX.out, decide_eq_false (by have h := HF.out; rwa [List.take_of_length_le (by rw [HL.out]; exact Nat.le_refl _)] at h)])
      go_wp2_with fail
      go_ret
      exact ⟨by rw [HE.out]; rfl, by first | exact below_dN HB.out _ | exact HB.out⟩
theorem got_place {l : List TRule} {q : TRequest} (h : mDecides l q = true) : ∃ m : Nat, mDecide l q = (m : Int) ∧ l[m]? = some (mGot l q) := by
  unfold mDecides at h
  have h0 := of_decide_eq_true h
  have hb := decide_bd l q
  have hlt : (mDecide l q).toNat < l.length := by omega
  refine ⟨(mDecide l q).toNat, by omega, ?_⟩
  unfold mGot
  rw [if_neg (by omega), List.getElem?_eq_getElem hlt]; rfl
set_option maxHeartbeats 16000000 in
theorem spec_FollowRequest (l : List TRule) (A0 : Option Addr) (n0 c0 lo hi : Nat) (q : TRequest) (w : World) (hn : n0 ≤ 1048576) (hr : Rd w lo hi 8 A0 n0 (cRule l)) (H : Hid (cRuleOk l)) (hq : Hid (TRequest.fit q)) :
    Calls Try.prog 7 #[.slice A0 n0 c0, vReq q] w (MakesOutcome (mFol l q).c (mFol l q).s (mFol l q).p.length (mFol l q).p w) := by
  have HR := Lib.hid (hr.old (by decide))
  have HLr := Lib.hid (rd_len TRule.len hr (by decide))
  have HSF := Lib.hid (show ({ f0 := q.f0, f1 := q.f1 } : TSite).fit from ⟨hq.out.1, hq.out.2.1⟩)
  have HV : Hid (mFol l q = if mIsRequest q = true then fol l q.f2 7 [] ⟨q.f0, q.f1⟩ else ⟨0, ⟨0, 0⟩, []⟩) := Lib.hid rfl
  have KQv := Lib.hid (((box_new w 36 #[.int .i64 q.f0, .int .i64 q.f1, .int .i64 q.f2]).alloc_ (.cells #[.int .i64 0, .int .i64 0, .int .i64 0, .slice none 0 0] 31)).alloc_ (.cells #[.int .i64 0, .int .i64 0, .int .i64 0, .slice none 0 0] 31))
  have KOv : Hid (BoxAt (((w.alloc (.cells #[.int .i64 q.f0, .int .i64 q.f1, .int .i64 q.f2] 36)).alloc (.cells #[.int .i64 0, .int .i64 0, .int .i64 0, .slice none 0 0] 31)).alloc (.cells #[.int .i64 0, .int .i64 0, .int .i64 0, .slice none 0 0] 31)) (w.heap.size + 1) 31 #[.int .i64 0, .int .i64 0, .int .i64 0, .slice none 0 0]) := Lib.hid ((by simpa using box_new (w.alloc (.cells #[.int .i64 q.f0, .int .i64 q.f1, .int .i64 q.f2] 36)) 31 #[.int .i64 0, .int .i64 0, .int .i64 0, .slice none 0 0] : BoxAt ((w.alloc (.cells #[.int .i64 q.f0, .int .i64 q.f1, .int .i64 q.f2] 36)).alloc (.cells #[.int .i64 0, .int .i64 0, .int .i64 0, .slice none 0 0] 31)) (w.heap.size + 1) 31 #[.int .i64 0, .int .i64 0, .int .i64 0, .slice none 0 0]).alloc_ _)
  have KXv : Hid (BoxAt (((w.alloc (.cells #[.int .i64 q.f0, .int .i64 q.f1, .int .i64 q.f2] 36)).alloc (.cells #[.int .i64 0, .int .i64 0, .int .i64 0, .slice none 0 0] 31)).alloc (.cells #[.int .i64 0, .int .i64 0, .int .i64 0, .slice none 0 0] 31)) (w.heap.size + 1 + 1) 31 #[.int .i64 0, .int .i64 0, .int .i64 0, .slice none 0 0]) := Lib.hid (by simpa using box_new ((w.alloc (.cells #[.int .i64 q.f0, .int .i64 q.f1, .int .i64 q.f2] 36)).alloc (.cells #[.int .i64 0, .int .i64 0, .int .i64 0, .slice none 0 0] 31)) 31 #[.int .i64 0, .int .i64 0, .int .i64 0, .slice none 0 0])
  have HBv : Hid (Below w.heap.size w (((w.alloc (.cells #[.int .i64 q.f0, .int .i64 q.f1, .int .i64 q.f2] 36)).alloc (.cells #[.int .i64 0, .int .i64 0, .int .i64 0, .slice none 0 0] 31)).alloc (.cells #[.int .i64 0, .int .i64 0, .int .i64 0, .slice none 0 0] 31))) := Lib.hid ((((Below.refl _ _).alloc (Nat.le_refl _) _).alloc (by simp) _).alloc (by simp <;> omega) _)
  have HSv : Hid ((((w.alloc (.cells #[.int .i64 q.f0, .int .i64 q.f1, .int .i64 q.f2] 36)).alloc (.cells #[.int .i64 0, .int .i64 0, .int .i64 0, .slice none 0 0] 31)).alloc (.cells #[.int .i64 0, .int .i64 0, .int .i64 0, .slice none 0 0] 31)).heap.size = w.heap.size + 3) := Lib.hid (by simp)
  have CI0 := Lib.hid (fun W => spec_IsRequest q W)
  generalize mFol l q = R at HV ⊢
  clear hr
  go_enter Try.func7, Try.ntmps7
  go_wp2_with fail
  obtain ⟨Q, hQ⟩ : ∃ Q, Q = w.heap.size := ⟨_, rfl⟩
  obtain ⟨O, hO⟩ : ∃ O, O = w.heap.size + 1 := ⟨_, rfl⟩
  obtain ⟨X, hX⟩ : ∃ X, X = w.heap.size + 1 + 1 := ⟨_, rfl⟩
  generalize hVV : (((w.alloc (.cells #[.int .i64 q.f0, .int .i64 q.f1, .int .i64 q.f2] 36)).alloc (.cells #[.int .i64 0, .int .i64 0, .int .i64 0, .slice none 0 0] 31)).alloc (.cells #[.int .i64 0, .int .i64 0, .int .i64 0, .slice none 0 0] 31)) = V at KQv KOv KXv HBv HSv ⊢
  obtain ⟨base, hbs⟩ : ∃ b, b = V.heap.size := ⟨_, rfl⟩
  have HSW := HSv.out
  rw [← hX, ← hO, ← hQ]
  rw [← hQ] at KQv
  rw [← hO] at KOv
  rw [← hX] at KXv
  have hQO : Q < O := by omega
  have hOX : O < X := by omega
  have hXb : X < base := by omega
  have hwO : w.heap.size ≤ O := by omega
  have hwQ : w.heap.size ≤ Q := by omega
  have hwX : w.heap.size ≤ X := by omega
  have hwb : w.heap.size ≤ base := by omega
  have HBb0 : Hid (base ≤ V.heap.size) := Lib.hid (Nat.le_of_eq hbs)
  have HL0 := Lib.hid (show OwnZ V base 28 2 (.slice none 0 0) 0 (cSite []) from .inr ⟨rfl, rfl, _, rfl⟩)
  clear hVV hbs HSW HSv hQ hO hX
  cases hqi : mIsRequest q with
  | false =>
    have HE := Lib.hid (show R = ⟨0, ⟨0, 0⟩, []⟩ by rw [HV.out, hqi]; rfl)
    rw [hqi] at CI0
    clear hqi
    go_loopg [9] 0 (fun gg v wr => V = wr)
    case atStart => exact rfl
    case round =>
      obtain rfl := hrel
      have q0 := KQv.out.at_ (j := 0) (u := .int .i64 q.f0) rfl
      have q1 := KQv.out.at_ (j := 1) (u := .int .i64 q.f1) rfl
      have q2 := KQv.out.at_ (j := 2) (u := .int .i64 q.f2) rfl
      go_wp2_with fail
      refine (CI0.out _).mono ?_
      rintro e1 w1 ⟨rfl, hb1⟩
      have KO1 := Lib.hid (KOv.out.new hb1)
      have KX1 := Lib.hid (KXv.out.new hb1)
      have HB1 := Lib.hid (below_trans HBv.out hb1 (Nat.le_refl _))
      have HL1 := Lib.hid (ownS_newer HL0.out hb1)
      have HBb1 := Lib.hid (Nat.le_trans HBb0.out hb1.size)
      clear hb1 q0 q1 q2
      have a0 := KX1.out.at_ (j := 0) (u := .int .i64 0) rfl
      have a1 := KX1.out.at_ (j := 1) (u := .int .i64 0) rfl
      have a2 := KX1.out.at_ (j := 2) (u := .int .i64 0) rfl
      have a3 := KX1.out.at_ (j := 3) (u := .slice none 0 0) rfl
      have o0 := KO1.out.at_ (j := 0) (u := .int .i64 0) rfl
      have o1 := KO1.out.at_ (j := 1) (u := .int .i64 0) rfl
      have o2 := KO1.out.at_ (j := 2) (u := .int .i64 0) rfl
      have o3 := KO1.out.at_ (j := 3) (u := .slice none 0 0) rfl
      have of0 := KO1.out.free 0
      have of1 := KO1.out.free 1
      have of2 := KO1.out.free 2
      have of3 := KO1.out.free 3
      have hXO : X ≠ O := by omega
      have hXl := KX1.out.lt
      have hOl := KO1.out.lt
      have HKOf := Lib.hid (boxS_put (boxS_put (boxS_put (boxS_put KO1.out 0 (.int .i64 0)) 1 (.int .i64 0)) 2 (.int .i64 0)) 3 (.slice none 0 0))
      go_wp2_with fail
      have y0 := HKOf.out.at_ (j := 0) (u := .int .i64 0) rfl
      have y1 := HKOf.out.at_ (j := 1) (u := .int .i64 0) rfl
      have y2 := HKOf.out.at_ (j := 2) (u := .int .i64 0) rfl
      have y3 := HKOf.out.at_ (j := 3) (u := .slice none 0 0) rfl
      refine bodyPost_ret (v := .agg #[.int .i64 0, .int .i64 0, .int .i64 0, .slice none 0 0]) (by simp [results, Try.results7, go_sem, y0, y1, y2, y3]) rfl ?_
      rw [HE.out]
      exact out_made (s := ⟨0, 0⟩) (p := []) (base := base) (own_chgS HL1.out (((((Chg.refl O (X + 1) w1).set_ (.inl ⟨Nat.le_refl _, (show O < X + 1 by omega)⟩) _).set_ (.inl ⟨Nat.le_refl _, (show O < X + 1 by omega)⟩) _).set_ (.inl ⟨Nat.le_refl _, (show O < X + 1 by omega)⟩) _).set_ (.inl ⟨Nat.le_refl _, (show O < X + 1 by omega)⟩) _) (by omega)) hwb (by have := HBb1.out; simp only [World.size_setCell]; exact this) ((((HB1.out.setCell hwO _).setCell hwO _).setCell hwO _).setCell hwO _) rfl
  | true =>
    have HRV := Lib.hid (show fol l q.f2 7 [] ⟨q.f0, q.f1⟩ = R by rw [HV.out, hqi]; rfl)
    have HRQ := Lib.hid (show mIsRequest (reqAt ⟨q.f0, q.f1⟩ q.f2) = true from hqi)
    clear hqi CI0
    generalize q.f2 = k at KQv HRV HRQ
    go_loopg [22] 7 (fun gg v wr => ∃ (p : List TSite) (s : TSite) (A : Option Addr) (n c : Nat) (x0 x1 : Int), n = p.length ∧ n ≤ 5 ∧ 7 - n ≤ gg ∧ Hid (¬ s ∈ p) ∧ Hid (mIsRequest (reqAt s k) = true) ∧ Hid (fol l k (7 - n) p s = R) ∧ Hid s.fit ∧ Hid (BoxAt wr Q 36 #[.int .i64 s.f0, .int .i64 s.f1, .int .i64 k]) ∧ Hid (BoxAt wr O 31 #[.int .i64 0, .int .i64 0, .int .i64 0, .slice none 0 0]) ∧ Hid (BoxAt wr X 31 #[.int .i64 0, .int .i64 x0, .int .i64 x1, .slice A n c]) ∧ Hid (OwnZ wr base 28 2 (.slice A n c) n (cSite p)) ∧ Hid (Below w.heap.size w wr) ∧ Hid (base ≤ wr.heap.size))
    case atStart => exact ⟨[], ⟨q.f0, q.f1⟩, none, 0, 0, 0, 0, rfl, by omega, by omega, Lib.hid (by simp), HRQ, HRV, HSF, KQv, KOv, KXv, HL0, HBv, HBb0⟩
    case round =>
      obtain ⟨p, s, A, n, c, x0, x1, hnp, hn5, hgg, HNM, HRQ, HF, HS, KQ, KO, KX, HO, HB, HBb⟩ := hrel
      have HNP := Lib.hid hnp
      obtain ⟨f, hf⟩ : ∃ f, 7 - n = f + 1 := ⟨6 - n, by omega⟩
      obtain ⟨f2, hf2⟩ : ∃ f2, f = f2 + 1 := ⟨5 - n, by omega⟩
      have HF1 := Lib.hid (show fol l k (f + 1) p s = R by rw [← hf]; exact HF.out)
      have HN6 := Lib.hid (show ¬ p.length = 6 by rw [← hnp]; omega)
      have CI := Lib.hid (fun W => spec_IsRequest (reqAt s k) W)
      rw [HRQ.out] at CI
      change Hid (∀ W, Calls Try.prog _ #[.agg #[.int .i64 s.f0, .int .i64 s.f1, .int .i64 k]] W _) at CI
      have q0 := KQ.out.at_ (j := 0) (u := .int .i64 s.f0) rfl
      have q1 := KQ.out.at_ (j := 1) (u := .int .i64 s.f1) rfl
      have q2 := KQ.out.at_ (j := 2) (u := .int .i64 k) rfl
      clear hnp
      go_wp2_with fail
      refine (CI.out _).mono ?_
      rintro e2 w2 ⟨rfl, hb2⟩
      have KQ2 := Lib.hid (KQ.out.new hb2)
      have KO2 := Lib.hid (KO.out.new hb2)
      have KX2 := Lib.hid (KX.out.new hb2)
      have HO2 := Lib.hid (ownS_newer HO.out hb2)
      have HB2 := Lib.hid (below_trans HB.out hb2 (Nat.le_refl _))
      have HBb2 := Lib.hid (Nat.le_trans HBb.out hb2.size)
      have q02 := KQ2.out.at_ (j := 0) (u := .int .i64 s.f0) rfl
      have q12 := KQ2.out.at_ (j := 1) (u := .int .i64 s.f1) rfl
      have x32 := KX2.out.at_ (j := 3) (u := .slice A n c) rfl
      clear hb2 q0 q1 q2 CI KQ KO KX HO
      go_wp2_with (at_builtin; refine wp_appz_lit rfl _ _ _ rfl base 28 (.agg #[.int .i64 0, .int .i64 0]) 2 16 Try.underlying29 icSite rfl (by decide) _ _ _ rfl HO2.out #[.int .i64 s.f0, .int .i64 s.f1] 1 1 _ rfl (by simp) rfl (by intro u hu; simp at hu; rcases hu with rfl | rfl <;> rfl) (by unfold maxLen; omega) (by omega) HBb2.out ?_; intro v3 w3 ho3 hb3; obtain ⟨A3, c3, rfl, _⟩ := fr_of_ownz ho3; have HO3 := Lib.hid ho3; have KQ3 := Lib.hid (KQ2.out.keep (hb3.block Q (by omega))); have KO3 := Lib.hid (KO2.out.keep (hb3.block O (by omega))); have KX3 := Lib.hid (KX2.out.keep (hb3.block X (by omega))); have HB3 := Lib.hid (HB2.out.trans (hb3.mono hwb)); have HBb3 := Lib.hid (Nat.le_trans HBb2.out hb3.size); have q03 := KQ3.out.at_ (j := 0) (u := .int .i64 s.f0) rfl; have q13 := KQ3.out.at_ (j := 1) (u := .int .i64 s.f1) rfl; have q23 := KQ3.out.at_ (j := 2) (u := .int .i64 k) rfl; have x03 := KX3.out.at_ (j := 0) (u := .int .i64 0) rfl; have x13 := KX3.out.at_ (j := 1) (u := .int .i64 x0) rfl; have x23 := KX3.out.at_ (j := 2) (u := .int .i64 x1) rfl; have x33 := KX3.out.at_ (j := 3) (u := .slice A n c) rfl; have xf1 := KX3.out.free 1; have xf2 := KX3.out.free 2; have xf3 := KX3.out.free 3; have hXQ : X ≠ Q := (by omega); have hQl3 := KQ3.out.lt; have hXl3 := KX3.out.lt; clear ho3 hb3)
      have KQ4 := Lib.hid (boxS_past (p := ⟨X, 2, none⟩) (v := .int .i64 s.f1) (boxS_past (p := ⟨X, 1, none⟩) (v := .int .i64 s.f0) (boxS_past (p := ⟨X, 3, none⟩) (v := .slice A3 (n + 1) c3) KQ3.out (show X ≠ Q by omega)) (show X ≠ Q by omega)) (show X ≠ Q by omega))
      have KO4 := Lib.hid (boxS_past (p := ⟨X, 2, none⟩) (v := .int .i64 s.f1) (boxS_past (p := ⟨X, 1, none⟩) (v := .int .i64 s.f0) (boxS_past (p := ⟨X, 3, none⟩) (v := .slice A3 (n + 1) c3) KO3.out (show X ≠ O by omega)) (show X ≠ O by omega)) (show X ≠ O by omega))
      have KX4 := Lib.hid (boxS_put (boxS_put (boxS_put KX3.out 3 (.slice A3 (n + 1) c3)) 1 (.int .i64 s.f0)) 2 (.int .i64 s.f1))
      have HO4 := Lib.hid (own_chgS (lo := X) (hi := X + 1) HO3.out ((((Chg.refl X (X + 1) w3).set_ (p := ⟨X, 3, none⟩) (.inl ⟨Nat.le_refl _, Nat.lt_succ_self _⟩) (.slice A3 (n + 1) c3)).set_ (p := ⟨X, 1, none⟩) (.inl ⟨Nat.le_refl _, Nat.lt_succ_self _⟩) (.int .i64 s.f0)).set_ (p := ⟨X, 2, none⟩) (.inl ⟨Nat.le_refl _, Nat.lt_succ_self _⟩) (.int .i64 s.f1)) (by omega))
      have HB4 := Lib.hid (((HB3.out.setCell (p := ⟨X, 3, none⟩) hwX (.slice A3 (n + 1) c3)).setCell (p := ⟨X, 1, none⟩) hwX (.int .i64 s.f0)).setCell (p := ⟨X, 2, none⟩) hwX (.int .i64 s.f1))
      have HBb4 : Hid (base ≤ (((w3.setCell ⟨X, 3, none⟩ (.slice A3 (n + 1) c3)).setCell ⟨X, 1, none⟩ (.int .i64 s.f0)).setCell ⟨X, 2, none⟩ (.int .i64 s.f1)).heap.size) := Lib.hid (by have := HBb3.out; simp only [World.size_setCell]; exact this)
      generalize ((w3.setCell ⟨X, 3, none⟩ (.slice A3 (n + 1) c3)).setCell ⟨X, 1, none⟩ (.int .i64 s.f0)).setCell ⟨X, 2, none⟩ (.int .i64 s.f1) = w4 at KQ4 KO4 KX4 HO4 HB4 HBb4 ⊢
      replace KX4 : Hid (BoxAt w4 X 31 #[.int .i64 0, .int .i64 s.f0, .int .i64 s.f1, .slice A3 (n + 1) c3]) := Lib.hid KX4.out
      replace HO4 : Hid (OwnZ w4 base 28 2 (.slice A3 (n + 1) c3) (n + 1) (cSite (p ++ [s]))) := Lib.hid (by simpa [cSite, List.flatMap_append, TSite.cells] using HO4.out)
      have HN1 := Lib.hid (show n + 1 = (p ++ [s]).length by rw [List.length_append, ← HNP.out]; rfl)
      clear KQ3 KO3 KX3 HO3 HB3 HBb3 KQ2 KO2 KX2 HO2 HB2 HBb2 q02 q12 x32 q03 q13 q23 x03 x13 x23 x33 xf1 xf2 xf3
      have CA := Lib.hid (show Calls Try.prog 24 #[.slice A0 n0 c0, .agg #[.int .i64 s.f0, .int .i64 s.f1, .int .i64 k]] w4 (Says (.int .i64 (mActFor l (reqAt s k))) w4) from spec_ActionFor l A0 n0 c0 0 w.heap.size (reqAt s k) w4 hn (HR.out.below HB4.out (Nat.le_refl _)) H)
      have HAF : Hid (mActFor l (reqAt s k) = if mDecides l (reqAt s k) = true then (mGot l (reqAt s k)).f5 else 1) := Lib.hid rfl
      have CDR := Lib.hid (fun W (hW : Below w.heap.size w W) => show Calls Try.prog 25 #[.slice A0 n0 c0, .agg #[.int .i64 s.f0, .int .i64 s.f1, .int .i64 k]] W (Says (.int .i64 (mDecide l (reqAt s k))) W) from spec_DecideRule l A0 n0 c0 0 w.heap.size (reqAt s k) W hn (HR.out.below hW (Nat.le_refl _)) H)
      have D1 := Lib.hid (fun h => fol_done HF1.out HNM.out HN6.out h)
      have D2 := Lib.hid (fun h => fol_stop HF1.out HNM.out HN6.out h)
      have D3 := Lib.hid (fun h => fol_on HF1.out HNM.out HN6.out h)
      have D4 := Lib.hid (fun h => to_fit (q := reqAt s k) H.out h)
      have D5 := Lib.hid (fun h h1 h2 => got_send (l := l) (s := s) (k := k) h h1 h2)
      have D6 := Lib.hid (fun h => got_place (l := l) (q := reqAt s k) h)
      generalize mActFor l (reqAt s k) = af at CA HAF
      generalize mGot l (reqAt s k) = r at HAF D1 D2 D3 D4 D5 D6
      generalize mDecides l (reqAt s k) = d at HAF D1 D2 D3 D4 D5 D6
      generalize mDecide l (reqAt s k) = zi at CDR D6
      refine CA.out.mono ?_
      rintro ea w5 ⟨rfl, hb5⟩
      have KQ5 := Lib.hid (KQ4.out.new hb5)
      have KO5 := Lib.hid (KO4.out.new hb5)
      have KX5 := Lib.hid (KX4.out.new hb5)
      have HO5 := Lib.hid (ownS_newer HO4.out hb5)
      have HB5 := Lib.hid (below_trans HB4.out hb5 (Nat.le_refl _))
      have HBb5 := Lib.hid (Nat.le_trans HBb4.out hb5.size)
      have hQl5 := KQ5.out.lt
      have hXl5 := KX5.out.lt
      have hOl5 := KO5.out.lt
      have hXO : X ≠ O := by omega
      clear hb5 CA KQ4 KO4 KX4 HO4 HB4 HBb4
      have xx0 := KX5.out.at_ (j := 0) (u := .int .i64 0) rfl
      have xx1 := KX5.out.at_ (j := 1) (u := .int .i64 s.f0) rfl
      have xx2 := KX5.out.at_ (j := 2) (u := .int .i64 s.f1) rfl
      have xx3 := KX5.out.at_ (j := 3) (u := .slice A3 (n + 1) c3) rfl
      have xxf0 := KX5.out.free 0
      have xxf1 := KX5.out.free 1
      have xxf2 := KX5.out.free 2
      have xxf3 := KX5.out.free 3
      have oo0 := KO5.out.at_ (j := 0) (u := .int .i64 0) rfl
      have oo1 := KO5.out.at_ (j := 1) (u := .int .i64 0) rfl
      have oo2 := KO5.out.at_ (j := 2) (u := .int .i64 0) rfl
      have oo3 := KO5.out.at_ (j := 3) (u := .slice none 0 0) rfl
      have oof0 := KO5.out.free 0
      have oof1 := KO5.out.free 1
      have oof2 := KO5.out.free 2
      have oof3 := KO5.out.free 3
      by_cases ha1 : af = 1
      · have g1 : (af == 1) = true := by simpa using ha1
        have HE := Lib.hid (D1.out (show d = false ∨ r.f5 = 1 by
          cases d with
          | false => exact .inl rfl
          | true => rw [HAF.out] at ha1; exact .inr ha1))
        clear ha1
        have HKOf := Lib.hid (boxS_put (boxS_put (boxS_put (boxS_put (boxS_past (p := ⟨X, 0, none⟩) (v := .int .i64 1) KO5.out (show X ≠ O by omega)) 0 (.int .i64 1)) 1 (.int .i64 s.f0)) 2 (.int .i64 s.f1)) 3 (.slice A3 (n + 1) c3))
        go_wp2_with fail
        have y0 := HKOf.out.at_ (j := 0) (u := .int .i64 1) rfl
        have y1 := HKOf.out.at_ (j := 1) (u := .int .i64 s.f0) rfl
        have y2 := HKOf.out.at_ (j := 2) (u := .int .i64 s.f1) rfl
        have y3 := HKOf.out.at_ (j := 3) (u := .slice A3 (n + 1) c3) rfl
        refine bodyPost_ret (v := .agg #[.int .i64 1, .int .i64 s.f0, .int .i64 s.f1, .slice A3 (n + 1) c3]) (by simp [results, Try.results7, go_sem, y0, y1, y2, y3]) rfl ?_
        rw [HE.out]
        exact out_made (base := base) (own_chgS HO5.out ((((((Chg.refl O (X + 1) w5).set_ (.inl ⟨(show O ≤ X by omega), Nat.lt_succ_self _⟩) _).set_ (.inl ⟨Nat.le_refl _, (show O < X + 1 by omega)⟩) _).set_ (.inl ⟨Nat.le_refl _, (show O < X + 1 by omega)⟩) _).set_ (.inl ⟨Nat.le_refl _, (show O < X + 1 by omega)⟩) _).set_ (.inl ⟨Nat.le_refl _, (show O < X + 1 by omega)⟩) _) (by omega)) hwb (by have := HBb5.out; simp only [World.size_setCell]; exact this) (((((HB5.out.setCell hwX _).setCell hwO _).setCell hwO _).setCell hwO _).setCell hwO _) HN1.out
      · have g1 : (af == 1) = false := by simpa using ha1
        have hd : d = true := by
          cases d with
          | true => rfl
          | false => exact absurd HAF.out ha1
        subst hd
        have haf : af = r.f5 := HAF.out
        by_cases ha2 : af = 2
        · have g2 : (af == 2) = true := by simpa using ha2
          have HE := Lib.hid (D2.out rfl (by rw [← haf]; exact ha1) (by rw [← haf]; exact ha2))
          clear ha1 ha2 haf
          have HKOf := Lib.hid (boxS_put (boxS_put (boxS_put (boxS_put (boxS_past (p := ⟨X, 0, none⟩) (v := .int .i64 2) KO5.out (show X ≠ O by omega)) 0 (.int .i64 2)) 1 (.int .i64 s.f0)) 2 (.int .i64 s.f1)) 3 (.slice A3 (n + 1) c3))
          go_wp2_with fail
          have y0 := HKOf.out.at_ (j := 0) (u := .int .i64 2) rfl
          have y1 := HKOf.out.at_ (j := 1) (u := .int .i64 s.f0) rfl
          have y2 := HKOf.out.at_ (j := 2) (u := .int .i64 s.f1) rfl
          have y3 := HKOf.out.at_ (j := 3) (u := .slice A3 (n + 1) c3) rfl
          refine bodyPost_ret (v := .agg #[.int .i64 2, .int .i64 s.f0, .int .i64 s.f1, .slice A3 (n + 1) c3]) (by simp [results, Try.results7, go_sem, y0, y1, y2, y3]) rfl ?_
          rw [HE.out]
          exact out_made (base := base) (own_chgS HO5.out ((((((Chg.refl O (X + 1) w5).set_ (.inl ⟨(show O ≤ X by omega), Nat.lt_succ_self _⟩) _).set_ (.inl ⟨Nat.le_refl _, (show O < X + 1 by omega)⟩) _).set_ (.inl ⟨Nat.le_refl _, (show O < X + 1 by omega)⟩) _).set_ (.inl ⟨Nat.le_refl _, (show O < X + 1 by omega)⟩) _).set_ (.inl ⟨Nat.le_refl _, (show O < X + 1 by omega)⟩) _) (by omega)) hwb (by have := HBb5.out; simp only [World.size_setCell]; exact this) (((((HB5.out.setCell hwX _).setCell hwO _).setCell hwO _).setCell hwO _).setCell hwO _) HN1.out
        · have g2 : (af == 2) = false := by simpa using ha2
          have HF2 := Lib.hid (D3.out rfl (by rw [← haf]; exact ha1) (by rw [← haf]; exact ha2))
          have HT := Lib.hid (D4.out rfl)
          have HRQ2 := Lib.hid (D5.out rfl (by rw [← haf]; exact ha1) (by rw [← haf]; exact ha2))
          obtain ⟨mz, hmz, hly⟩ := D6.out rfl
          have hmn : mz < n0 := by have := (List.getElem?_eq_some_iff.1 hly).1; have := HLr.out; omega
          clear ha1 ha2 haf
          have qq0 := KQ5.out.at_ (j := 0) (u := .int .i64 s.f0) rfl
          have qq1 := KQ5.out.at_ (j := 1) (u := .int .i64 s.f1) rfl
          have qq2 := KQ5.out.at_ (j := 2) (u := .int .i64 k) rfl
          go_wp2_with fail
          refine (CDR.out _ HB5.out).mono ?_
          rintro ed w6 ⟨rfl, hb6⟩
          rw [hmz]
          obtain ⟨bb, off, y, hA0, _, _, hz, hc⟩ := rd_elem TRule.len (HR.out.below (below_trans HB5.out hb6 (Nat.le_refl _)) (Nat.le_refl _)) HLr.out hmn
          obtain rfl : r = y := Option.some.inj (hly.symm.trans hz)
          have r6 := hc 6 _ rfl
          have r7 := hc 7 _ rfl
          have r0 : w6.cell? ⟨bb, off + mz * 8, none⟩ = _ := hc 0 _ rfl
          have hbl : bb < w6.heap.size := World.block_lt_of_cell? w6 _ r0
          subst hA0
          have KQ7 := Lib.hid ((KQ5.out.new hb6).alloc_ (.cells #[.int .i64 r.f6, .int .i64 r.f7] 28))
          have KO7 := Lib.hid ((KO5.out.new hb6).alloc_ (.cells #[.int .i64 r.f6, .int .i64 r.f7] 28))
          have KX7 := Lib.hid ((KX5.out.new hb6).alloc_ (.cells #[.int .i64 r.f6, .int .i64 r.f7] 28))
          have HO7 := Lib.hid ((ownS_newer HO5.out hb6).alloc (.cells #[.int .i64 r.f6, .int .i64 r.f7] 28))
          have HB6 := Lib.hid (below_trans HB5.out hb6 (Nat.le_refl _))
          have HB7 := Lib.hid (HB6.out.alloc HB6.out.size (.cells #[.int .i64 r.f6, .int .i64 r.f7] 28))
          have HBb7 : Hid (base ≤ (w6.alloc (.cells #[.int .i64 r.f6, .int .i64 r.f7] 28)).heap.size) := Lib.hid (by have := HBb5.out; have := hb6.size; simp; omega)
          have HTb := Lib.hid (box_new w6 28 #[.int .i64 r.f6, .int .i64 r.f7])
          have hTX : Hid (X < w6.heap.size) := Lib.hid (Nat.lt_of_lt_of_le hXl5 hb6.size)
          have x37 := (KX5.out.new hb6).at_ (j := 3) (u := .slice A3 (n + 1) c3) rfl
          have hXl6 := hTX.out
          clear hz hc hb6 qq0 qq1 qq2 xx0 xxf0 xx1 xxf1 xx2 xxf2 xx3 xxf3 oo0 oof0 oo1 oof1 oo2 oof2 oo3 oof3
          generalize hw7 : w6.alloc (.cells #[.int .i64 r.f6, .int .i64 r.f7] 28) = w7 at KQ7 KO7 KX7 HO7 HB7 HBb7 HTb
          have HW7 := Lib.hid hw7
          clear hw7
          obtain ⟨T, hT⟩ : ∃ T, T = w6.heap.size := ⟨_, rfl⟩
          have hXT : X < T := by rw [hT]; exact hXl6
          have HTb2 : Hid (BoxAt w7 T 28 #[.int .i64 r.f6, .int .i64 r.f7]) := Lib.hid (by rw [hT]; exact HTb.out)
          have HT0 := Lib.hid hT
          clear hT HTb
          obtain ⟨Aq, cq, hvq, hFq⟩ := fr_of_ownz HO7.out
          injection hvq with hv1 _ hv2
          subst hv1
          subst hv2
          have HP7 := Lib.hid hFq.rd
          clear hFq
          have HF3 : Hid (fol l k (f2 + 1) (p ++ [s]) (toOf r) = R) := Lib.hid (by have h := HF2.out; rw [hf2] at h; exact h)
          by_cases hm : toOf r ∈ p ++ [s]
          · have HMM := Lib.hid (show decide (toOf r ∈ p ++ [s]) = true from decide_eq_true hm)
            have HE := Lib.hid (fol_loop HF3.out hm)
            clear hm
            go_wp2_with fail
            rw [HW7.out, ← HT0.out]
            have CH7 : Hid (Calls Try.prog 26 #[.slice A3 (n + 1) c3, .agg #[.int .i64 r.f6, .int .i64 r.f7]] w7 (Says (.bool true) w7)) := Lib.hid (spec_l18Has (toOf r) (p ++ [s]) A3 (n + 1) c3 base w7.heap.size true w7 (by omega) HP7.out HMM)
            refine CH7.out.mono ?_
            rintro eh w8 ⟨rfl, hb8⟩
            have KQ8 := Lib.hid (KQ7.out.new hb8)
            have KO8 := Lib.hid (KO7.out.new hb8)
            have KX8 := Lib.hid (KX7.out.new hb8)
            have HO8 := Lib.hid (ownS_newer HO7.out hb8)
            have HB8 := Lib.hid (below_trans HB7.out hb8 (Nat.le_refl _))
            have HBb8 := Lib.hid (Nat.le_trans HBb7.out hb8.size)
            have HT8 := Lib.hid (HTb2.out.new hb8)
            have tt0 := HT8.out.at_ (j := 0) (u := .int .i64 r.f6) rfl
            have tt1 := HT8.out.at_ (j := 1) (u := .int .i64 r.f7) rfl
            have hXT2 : X ≠ T := by omega
            have hTX2 : T ≠ X := by omega
            have hTl8 := HT8.out.lt
            have hXl8 := KX8.out.lt
            clear hb8 CH7
            have xx0 := KX8.out.at_ (j := 0) (u := .int .i64 0) rfl
            have xx1 := KX8.out.at_ (j := 1) (u := .int .i64 s.f0) rfl
            have xx2 := KX8.out.at_ (j := 2) (u := .int .i64 s.f1) rfl
            have xx3 := KX8.out.at_ (j := 3) (u := .slice A3 (n + 1) c3) rfl
            have xxf0 := KX8.out.free 0
            have xxf1 := KX8.out.free 1
            have xxf2 := KX8.out.free 2
            have xxf3 := KX8.out.free 3
            go_wp2_with fail
            have KX9 := Lib.hid (boxS_put (boxS_put (boxS_put KX8.out 1 (.int .i64 r.f6)) 2 (.int .i64 r.f7)) 0 (.int .i64 4))
            have KO9 := Lib.hid (boxS_past (p := ⟨X, 0, none⟩) (v := .int .i64 4) (boxS_past (p := ⟨X, 2, none⟩) (v := .int .i64 r.f7) (boxS_past (p := ⟨X, 1, none⟩) (v := .int .i64 r.f6) KO8.out (show X ≠ O by omega)) (show X ≠ O by omega)) (show X ≠ O by omega))
            have HT9 := Lib.hid (boxS_past (p := ⟨X, 0, none⟩) (v := .int .i64 4) (boxS_past (p := ⟨X, 2, none⟩) (v := .int .i64 r.f7) (boxS_past (p := ⟨X, 1, none⟩) (v := .int .i64 r.f6) HT8.out (show X ≠ T by omega)) (show X ≠ T by omega)) (show X ≠ T by omega))
            have HO9 := Lib.hid (own_chgS (lo := X) (hi := X + 1) HO8.out ((((Chg.refl X (X + 1) w8).set_ (p := ⟨X, 1, none⟩) (.inl ⟨Nat.le_refl _, Nat.lt_succ_self _⟩) (.int .i64 r.f6)).set_ (p := ⟨X, 2, none⟩) (.inl ⟨Nat.le_refl _, Nat.lt_succ_self _⟩) (.int .i64 r.f7)).set_ (p := ⟨X, 0, none⟩) (.inl ⟨Nat.le_refl _, Nat.lt_succ_self _⟩) (.int .i64 4)) (by omega))
            have HB9 := Lib.hid (((HB8.out.setCell (p := ⟨X, 1, none⟩) hwX (.int .i64 r.f6)).setCell (p := ⟨X, 2, none⟩) hwX (.int .i64 r.f7)).setCell (p := ⟨X, 0, none⟩) hwX (.int .i64 4))
            have HBb9 : Hid (base ≤ (((w8.setCell ⟨X, 1, none⟩ (.int .i64 r.f6)).setCell ⟨X, 2, none⟩ (.int .i64 r.f7)).setCell ⟨X, 0, none⟩ (.int .i64 4)).heap.size) := Lib.hid (by have := HBb8.out; simp only [World.size_setCell]; exact this)
            generalize ((w8.setCell ⟨X, 1, none⟩ (.int .i64 r.f6)).setCell ⟨X, 2, none⟩ (.int .i64 r.f7)).setCell ⟨X, 0, none⟩ (.int .i64 4) = w9 at KX9 KO9 HT9 HO9 HB9 HBb9 ⊢
            replace KX9 : Hid (BoxAt w9 X 31 #[.int .i64 4, .int .i64 r.f6, .int .i64 r.f7, .slice A3 (n + 1) c3]) := Lib.hid KX9.out
            obtain ⟨Ar, cr, hvr, hFr⟩ := fr_of_ownz HO9.out
            injection hvr with hr1 _ hr2
            subst hr1
            subst hr2
            have HP9 := Lib.hid hFr.rd
            clear hFr KX8 KO8 HT8 HO8 HB8 HBb8 KQ8 tt0 tt1 xx0 xxf0 xx1 xxf1 xx2 xxf2 xx3 xxf3
            go_wp2_with fail
            have CH9 : Hid (Calls Try.prog 26 #[.slice A3 (n + 1) c3, .agg #[.int .i64 r.f6, .int .i64 r.f7]] w9 (Says (.bool true) w9)) := Lib.hid (spec_l18Has (toOf r) (p ++ [s]) A3 (n + 1) c3 base w9.heap.size true w9 (by omega) HP9.out HMM)
            refine CH9.out.mono ?_
            rintro ei w10 ⟨rfl, hb10⟩
            have KO10 := Lib.hid (KO9.out.new hb10)
            have KX10 := Lib.hid (KX9.out.new hb10)
            have HO10 := Lib.hid (ownS_newer HO9.out hb10)
            have HB10 := Lib.hid (below_trans HB9.out hb10 (Nat.le_refl _))
            have HBb10 := Lib.hid (Nat.le_trans HBb9.out hb10.size)
            have hXl10 := KX10.out.lt
            have hOl10 := KO10.out.lt
            clear hb10 CH9
            have xx0 := KX10.out.at_ (j := 0) (u := .int .i64 4) rfl
            have xx1 := KX10.out.at_ (j := 1) (u := .int .i64 r.f6) rfl
            have xx2 := KX10.out.at_ (j := 2) (u := .int .i64 r.f7) rfl
            have xx3 := KX10.out.at_ (j := 3) (u := .slice A3 (n + 1) c3) rfl
            have xxf0 := KX10.out.free 0
            have xxf1 := KX10.out.free 1
            have xxf2 := KX10.out.free 2
            have xxf3 := KX10.out.free 3
            have oo0 := KO10.out.at_ (j := 0) (u := .int .i64 0) rfl
            have oo1 := KO10.out.at_ (j := 1) (u := .int .i64 0) rfl
            have oo2 := KO10.out.at_ (j := 2) (u := .int .i64 0) rfl
            have oo3 := KO10.out.at_ (j := 3) (u := .slice none 0 0) rfl
            have oof0 := KO10.out.free 0
            have oof1 := KO10.out.free 1
            have oof2 := KO10.out.free 2
            have oof3 := KO10.out.free 3
            have HKOf := Lib.hid (boxS_put (boxS_put (boxS_put (boxS_put (boxS_past (p := ⟨X, 0, none⟩) (v := .int .i64 3) KO10.out (show X ≠ O by omega)) 0 (.int .i64 3)) 1 (.int .i64 r.f6)) 2 (.int .i64 r.f7)) 3 (.slice A3 (n + 1) c3))
            go_wp2_with fail
            have y0 := HKOf.out.at_ (j := 0) (u := .int .i64 3) rfl
            have y1 := HKOf.out.at_ (j := 1) (u := .int .i64 r.f6) rfl
            have y2 := HKOf.out.at_ (j := 2) (u := .int .i64 r.f7) rfl
            have y3 := HKOf.out.at_ (j := 3) (u := .slice A3 (n + 1) c3) rfl
            refine bodyPost_ret (v := .agg #[.int .i64 3, .int .i64 r.f6, .int .i64 r.f7, .slice A3 (n + 1) c3]) (by simp [results, Try.results7, go_sem, y0, y1, y2, y3]) rfl ?_
            rw [HE.out]
            exact out_made (base := base) (own_chgS HO10.out ((((((Chg.refl O (X + 1) w10).set_ (.inl ⟨(show O ≤ X by omega), Nat.lt_succ_self _⟩) _).set_ (.inl ⟨Nat.le_refl _, (show O < X + 1 by omega)⟩) _).set_ (.inl ⟨Nat.le_refl _, (show O < X + 1 by omega)⟩) _).set_ (.inl ⟨Nat.le_refl _, (show O < X + 1 by omega)⟩) _).set_ (.inl ⟨Nat.le_refl _, (show O < X + 1 by omega)⟩) _) (by omega)) hwb (by have := HBb10.out; simp only [World.size_setCell]; exact this) (((((HB10.out.setCell hwX _).setCell hwO _).setCell hwO _).setCell hwO _).setCell hwO _) HN1.out
          · have HMM := Lib.hid (show decide (toOf r ∈ p ++ [s]) = false from decide_eq_false hm)
            have HNM2 := Lib.hid hm
            by_cases h5 : n = 5
            · have g6 : decide ((6 : Int) ≤ (n : Int) + 1) = true := by simp; omega
              have HE := Lib.hid (fol_long HF3.out hm (show (p ++ [s]).length = 6 by rw [← HN1.out]; omega))
              clear hm h5
              go_wp2_with fail
              rw [HW7.out, ← HT0.out]
              have CH7 : Hid (Calls Try.prog 26 #[.slice A3 (n + 1) c3, .agg #[.int .i64 r.f6, .int .i64 r.f7]] w7 (Says (.bool false) w7)) := Lib.hid (spec_l18Has (toOf r) (p ++ [s]) A3 (n + 1) c3 base w7.heap.size false w7 (by omega) HP7.out HMM)
              refine CH7.out.mono ?_
              rintro eh w8 ⟨rfl, hb8⟩
              have KQ8 := Lib.hid (KQ7.out.new hb8)
              have KO8 := Lib.hid (KO7.out.new hb8)
              have KX8 := Lib.hid (KX7.out.new hb8)
              have HO8 := Lib.hid (ownS_newer HO7.out hb8)
              have HB8 := Lib.hid (below_trans HB7.out hb8 (Nat.le_refl _))
              have HBb8 := Lib.hid (Nat.le_trans HBb7.out hb8.size)
              have HT8 := Lib.hid (HTb2.out.new hb8)
              have tt0 := HT8.out.at_ (j := 0) (u := .int .i64 r.f6) rfl
              have tt1 := HT8.out.at_ (j := 1) (u := .int .i64 r.f7) rfl
              have hXT2 : X ≠ T := by omega
              have hTX2 : T ≠ X := by omega
              have hTl8 := HT8.out.lt
              have hXl8 := KX8.out.lt
              clear hb8 CH7
              have xx0 := KX8.out.at_ (j := 0) (u := .int .i64 0) rfl
              have xx1 := KX8.out.at_ (j := 1) (u := .int .i64 s.f0) rfl
              have xx2 := KX8.out.at_ (j := 2) (u := .int .i64 s.f1) rfl
              have xx3 := KX8.out.at_ (j := 3) (u := .slice A3 (n + 1) c3) rfl
              have xxf0 := KX8.out.free 0
              have xxf1 := KX8.out.free 1
              have xxf2 := KX8.out.free 2
              have xxf3 := KX8.out.free 3
              go_wp2_with fail
              have KX9 := Lib.hid (boxS_put (boxS_put (boxS_put KX8.out 1 (.int .i64 r.f6)) 2 (.int .i64 r.f7)) 0 (.int .i64 4))
              have KO9 := Lib.hid (boxS_past (p := ⟨X, 0, none⟩) (v := .int .i64 4) (boxS_past (p := ⟨X, 2, none⟩) (v := .int .i64 r.f7) (boxS_past (p := ⟨X, 1, none⟩) (v := .int .i64 r.f6) KO8.out (show X ≠ O by omega)) (show X ≠ O by omega)) (show X ≠ O by omega))
              have HT9 := Lib.hid (boxS_past (p := ⟨X, 0, none⟩) (v := .int .i64 4) (boxS_past (p := ⟨X, 2, none⟩) (v := .int .i64 r.f7) (boxS_past (p := ⟨X, 1, none⟩) (v := .int .i64 r.f6) HT8.out (show X ≠ T by omega)) (show X ≠ T by omega)) (show X ≠ T by omega))
              have HO9 := Lib.hid (own_chgS (lo := X) (hi := X + 1) HO8.out ((((Chg.refl X (X + 1) w8).set_ (p := ⟨X, 1, none⟩) (.inl ⟨Nat.le_refl _, Nat.lt_succ_self _⟩) (.int .i64 r.f6)).set_ (p := ⟨X, 2, none⟩) (.inl ⟨Nat.le_refl _, Nat.lt_succ_self _⟩) (.int .i64 r.f7)).set_ (p := ⟨X, 0, none⟩) (.inl ⟨Nat.le_refl _, Nat.lt_succ_self _⟩) (.int .i64 4)) (by omega))
              have HB9 := Lib.hid (((HB8.out.setCell (p := ⟨X, 1, none⟩) hwX (.int .i64 r.f6)).setCell (p := ⟨X, 2, none⟩) hwX (.int .i64 r.f7)).setCell (p := ⟨X, 0, none⟩) hwX (.int .i64 4))
              have HBb9 : Hid (base ≤ (((w8.setCell ⟨X, 1, none⟩ (.int .i64 r.f6)).setCell ⟨X, 2, none⟩ (.int .i64 r.f7)).setCell ⟨X, 0, none⟩ (.int .i64 4)).heap.size) := Lib.hid (by have := HBb8.out; simp only [World.size_setCell]; exact this)
              generalize ((w8.setCell ⟨X, 1, none⟩ (.int .i64 r.f6)).setCell ⟨X, 2, none⟩ (.int .i64 r.f7)).setCell ⟨X, 0, none⟩ (.int .i64 4) = w9 at KX9 KO9 HT9 HO9 HB9 HBb9 ⊢
              replace KX9 : Hid (BoxAt w9 X 31 #[.int .i64 4, .int .i64 r.f6, .int .i64 r.f7, .slice A3 (n + 1) c3]) := Lib.hid KX9.out
              obtain ⟨Ar, cr, hvr, hFr⟩ := fr_of_ownz HO9.out
              injection hvr with hr1 _ hr2
              subst hr1
              subst hr2
              have HP9 := Lib.hid hFr.rd
              clear hFr KX8 KO8 HT8 HO8 HB8 HBb8 KQ8 tt0 tt1 xx0 xxf0 xx1 xxf1 xx2 xxf2 xx3 xxf3
              go_wp2_with fail
              have CH9 : Hid (Calls Try.prog 26 #[.slice A3 (n + 1) c3, .agg #[.int .i64 r.f6, .int .i64 r.f7]] w9 (Says (.bool false) w9)) := Lib.hid (spec_l18Has (toOf r) (p ++ [s]) A3 (n + 1) c3 base w9.heap.size false w9 (by omega) HP9.out HMM)
              refine CH9.out.mono ?_
              rintro ei w10 ⟨rfl, hb10⟩
              have KO10 := Lib.hid (KO9.out.new hb10)
              have KX10 := Lib.hid (KX9.out.new hb10)
              have HO10 := Lib.hid (ownS_newer HO9.out hb10)
              have HB10 := Lib.hid (below_trans HB9.out hb10 (Nat.le_refl _))
              have HBb10 := Lib.hid (Nat.le_trans HBb9.out hb10.size)
              have hXl10 := KX10.out.lt
              have hOl10 := KO10.out.lt
              clear hb10 CH9
              have xx0 := KX10.out.at_ (j := 0) (u := .int .i64 4) rfl
              have xx1 := KX10.out.at_ (j := 1) (u := .int .i64 r.f6) rfl
              have xx2 := KX10.out.at_ (j := 2) (u := .int .i64 r.f7) rfl
              have xx3 := KX10.out.at_ (j := 3) (u := .slice A3 (n + 1) c3) rfl
              have xxf0 := KX10.out.free 0
              have xxf1 := KX10.out.free 1
              have xxf2 := KX10.out.free 2
              have xxf3 := KX10.out.free 3
              have oo0 := KO10.out.at_ (j := 0) (u := .int .i64 0) rfl
              have oo1 := KO10.out.at_ (j := 1) (u := .int .i64 0) rfl
              have oo2 := KO10.out.at_ (j := 2) (u := .int .i64 0) rfl
              have oo3 := KO10.out.at_ (j := 3) (u := .slice none 0 0) rfl
              have oof0 := KO10.out.free 0
              have oof1 := KO10.out.free 1
              have oof2 := KO10.out.free 2
              have oof3 := KO10.out.free 3
              have HKOf := Lib.hid (boxS_put (boxS_put (boxS_put (boxS_put KO10.out 0 (.int .i64 4)) 1 (.int .i64 r.f6)) 2 (.int .i64 r.f7)) 3 (.slice A3 (n + 1) c3))
              go_wp2_with fail
              have y0 := HKOf.out.at_ (j := 0) (u := .int .i64 4) rfl
              have y1 := HKOf.out.at_ (j := 1) (u := .int .i64 r.f6) rfl
              have y2 := HKOf.out.at_ (j := 2) (u := .int .i64 r.f7) rfl
              have y3 := HKOf.out.at_ (j := 3) (u := .slice A3 (n + 1) c3) rfl
              refine bodyPost_ret (v := .agg #[.int .i64 4, .int .i64 r.f6, .int .i64 r.f7, .slice A3 (n + 1) c3]) (by simp [results, Try.results7, go_sem, y0, y1, y2, y3]) rfl ?_
              rw [HE.out]
              exact out_made (base := base) (own_chgS HO10.out (((((Chg.refl O (X + 1) w10).set_ (.inl ⟨Nat.le_refl _, (show O < X + 1 by omega)⟩) _).set_ (.inl ⟨Nat.le_refl _, (show O < X + 1 by omega)⟩) _).set_ (.inl ⟨Nat.le_refl _, (show O < X + 1 by omega)⟩) _).set_ (.inl ⟨Nat.le_refl _, (show O < X + 1 by omega)⟩) _) (by omega)) hwb (by have := HBb10.out; simp only [World.size_setCell]; exact this) ((((HB10.out.setCell hwO _).setCell hwO _).setCell hwO _).setCell hwO _) HN1.out
            · have g6 : decide ((6 : Int) ≤ (n : Int) + 1) = false := by simp; omega
              have hn4 : n + 1 ≤ 5 := by omega
              clear hm h5
              go_wp2_with fail
              rw [HW7.out, ← HT0.out]
              have CH7 : Hid (Calls Try.prog 26 #[.slice A3 (n + 1) c3, .agg #[.int .i64 r.f6, .int .i64 r.f7]] w7 (Says (.bool false) w7)) := Lib.hid (spec_l18Has (toOf r) (p ++ [s]) A3 (n + 1) c3 base w7.heap.size false w7 (by omega) HP7.out HMM)
              refine CH7.out.mono ?_
              rintro eh w8 ⟨rfl, hb8⟩
              have KQ8 := Lib.hid (KQ7.out.new hb8)
              have KO8 := Lib.hid (KO7.out.new hb8)
              have KX8 := Lib.hid (KX7.out.new hb8)
              have HO8 := Lib.hid (ownS_newer HO7.out hb8)
              have HB8 := Lib.hid (below_trans HB7.out hb8 (Nat.le_refl _))
              have HBb8 := Lib.hid (Nat.le_trans HBb7.out hb8.size)
              have HT8 := Lib.hid (HTb2.out.new hb8)
              have tt0 := HT8.out.at_ (j := 0) (u := .int .i64 r.f6) rfl
              have tt1 := HT8.out.at_ (j := 1) (u := .int .i64 r.f7) rfl
              have hXT2 : X ≠ T := by omega
              have hTX2 : T ≠ X := by omega
              have hTl8 := HT8.out.lt
              have hXl8 := KX8.out.lt
              clear hb8 CH7
              have xx0 := KX8.out.at_ (j := 0) (u := .int .i64 0) rfl
              have xx1 := KX8.out.at_ (j := 1) (u := .int .i64 s.f0) rfl
              have xx2 := KX8.out.at_ (j := 2) (u := .int .i64 s.f1) rfl
              have xx3 := KX8.out.at_ (j := 3) (u := .slice A3 (n + 1) c3) rfl
              have xxf0 := KX8.out.free 0
              have xxf1 := KX8.out.free 1
              have xxf2 := KX8.out.free 2
              have xxf3 := KX8.out.free 3
              have qf0 := KQ8.out.free 0
              have qf1 := KQ8.out.free 1
              have qc0 := KQ8.out.at_ (j := 0) (u := .int .i64 s.f0) rfl
              have qc1 := KQ8.out.at_ (j := 1) (u := .int .i64 s.f1) rfl
              go_wp2_with fail
              go_roundg (7 - (n + 1))
              case measure => omega
              case rel =>
                exact ⟨p ++ [s], toOf r, A3, n + 1, c3, s.f0, s.f1, HN1.out, by omega, by omega, HNM2, HRQ2, Lib.hid (by rw [show 7 - (n + 1) = f by omega]; exact HF2.out), HT, Lib.hid (boxS_put (boxS_put KQ8.out 0 (.int .i64 r.f6)) 1 (.int .i64 r.f7)),
                  Lib.hid (boxS_past (boxS_past KO8.out (show Q ≠ O by omega)) (show Q ≠ O by omega)), Lib.hid (boxS_past (boxS_past KX8.out (show Q ≠ X by omega)) (show Q ≠ X by omega)),
                  Lib.hid (own_chgS HO8.out (((Chg.refl Q (Q + 1) _).set_ (.inl ⟨Nat.le_refl _, Nat.lt_succ_self _⟩) _).set_ (.inl ⟨Nat.le_refl _, Nat.lt_succ_self _⟩) _) (by omega)), Lib.hid ((HB8.out.setCell hwQ _).setCell hwQ _), Lib.hid (by have := HBb8.out; simp only [World.size_setCell]; exact this)⟩
end Go.Proofs.Ytafekceggpbnlaa
