/- FollowRequest of the program. -/
import Derived.Test.YtfceddgacefejaaFolM
import Derived.Test.YtfceddgacefejaaKyS
import Derived.Test.YtfceddgacefejaaESite
import Derived.Test.YtfceddgacefejaaROutcome
import Derived.Test.YtfceddgacefejaaApp
import Derived.Deep.RegionHeld3
import Derived.Deep.LoopGhost
namespace Go.Proofs.Ytfceddgacefejaa
open Go Go.ChangeShapes Go.WideShapes Go.ChangeAt Go.RowKit Go.Lib
set_option linter.unusedVariables false
set_option linter.unusedSimpArgs false
set_option maxRecDepth 100000
theorem own_chgS {w w' : World} {base lo hi size n : Nat} {e : TypeId} {v : Value} {xs : List Value} (h : OwnZ w base e size v n xs) (hc : Chg lo hi w w') (hb : hi ≤ base) : OwnZ w' base e size v n xs := by
  refine h.imp (fun h => ?_) id
  refine ⟨h.1, ?_⟩
  rcases h.2 with hn | ⟨g, cap, cur, hv, hg, hh, rest⟩
  · exact .inl hn
  · refine .inr ⟨g, cap, cur, hv, hg, ?_, rest⟩
    rw [hc.block g (Array.getElem?_eq_some_iff.1 hh).1 (by omega)]
    exact hh
theorem ownS_newer {w w' : World} {base size n : Nat} {e : TypeId} {v : Value} {xs : List Value} (h : OwnZ w base e size v n xs) (hb : Below w.heap.size w w') : OwnZ w' base e size v n xs := own_chgS h (chg_of_new (lo := 0) (hi := 0) hb) (Nat.zero_le _)
theorem boxS_put {w : World} {g : Nat} {t : TypeId} {cs : Array Value} (h : BoxAt w g t cs) (j : Nat) (v : Value) : BoxAt (w.setCell ⟨g, j, none⟩ v) g t (cs.setIfInBounds j v) := by
  unfold BoxAt at h ⊢
  simp [World.setCell, Array.getElem?_modify, h]
theorem boxS_past {w : World} {g : Nat} {t : TypeId} {cs : Array Value} (h : BoxAt w g t cs) {p : Addr} {v : Value} (hp : p.block ≠ g) : BoxAt (w.setCell p v) g t cs :=
  (Below.heap_setCell w p v g (fun e => hp e.symm)).trans h
theorem mapS_past {w : World} {b n : Nat} {s : TSite → Bool} (h : MapS w b n s) {p : Addr} {v : Value} (hp : p.block ≠ b) : MapS (w.setCell p v) b n s := h.keep (Below.heap_setCell w p v b (fun e => hp e.symm))
theorem MapS.grown_ {w w' : World} {b n r : Nat} {s : TSite → Bool} (h : MapS w b n s) (hg : w.grownBy w' (some r)) (hne : b ≠ r) : MapS w' b n s := h.keep (hg.block b h.lt (by intro e; injection e with e; exact hne e))
/-- What 'end' answers: the code, the site at hand and the path. -/
theorem end_any (z : Int) (s : TSite) (k : Int) (A : Option Addr) (n c Q P : Nat) (w : World) (hq : BoxAt w Q 57 #[.int .i64 s.f0, .int .i64 s.f1, .int .i64 k]) (hp : BoxAt w P 69 #[.slice A n c]) :
    Calls Try.prog 158 #[.int .i64 z, .pointer (some ⟨Q, 0, none⟩), .pointer (some ⟨P, 0, none⟩)] w (Says (.agg #[.int .i64 z, .int .i64 s.f0, .int .i64 s.f1, .slice A n c]) w) := by
  have q0 := hq.at_ (j := 0) (u := .int .i64 s.f0) rfl
  have q1 := hq.at_ (j := 1) (u := .int .i64 s.f1) rfl
  have p0 := hp.at_ (j := 0) (u := .slice A n c) rfl
  have hQl := hq.lt
  have hPl := hp.lt
  have KO := Lib.hid (box_new w 71 #[.int .i64 z, .int .i64 s.f0, .int .i64 s.f1, .slice A n c])
  clear hq hp
  go_enter Try.func158, Try.ntmps158
  go_wp2_with fail
  have z0 := KO.out.at_ (j := 0) (u := .int .i64 z) rfl
  have z1 := KO.out.at_ (j := 1) (u := .int .i64 s.f0) rfl
  have z2 := KO.out.at_ (j := 2) (u := .int .i64 s.f1) rfl
  have z3 := KO.out.at_ (j := 3) (u := .slice A n c) rfl
  exact bodyPost_ret (v := .agg #[.int .i64 z, .int .i64 s.f0, .int .i64 s.f1, .slice A n c]) (by simp [results, Try.results158, go_sem, z0, z1, z2, z3]) rfl ⟨rfl, (Below.refl _ _).alloc (Nat.le_refl _) _⟩
/-- The answer, once it has been stored into the result's block. -/
theorem out_made {w W : World} {z : Int} {s : TSite} {p : List TSite} {A : Option Addr} {n c base : Nat} (hO : OwnZ W base 27 2 (.slice A n c) n (cSite p)) (hb : w.heap.size ≤ base) (hbW : base ≤ W.heap.size) (hB : Below w.heap.size w W) (hn : n = p.length) :
    MakesOutcome z s p.length p w (.returned (.agg #[.int .i64 z, .int .i64 s.f0, .int .i64 s.f1, .slice A n c])) W := by
  obtain ⟨A', c', hv, hF⟩ := fr_of_ownz hO
  injection hv with h1 _ h2
  subst h1
  subst h2
  subst hn
  exact ⟨A, c, base, W.heap.size, rfl, hF, Lib.hid ⟨hb, hbW, Nat.le_refl _⟩, hB⟩
set_option maxHeartbeats 16000000 in
theorem impl_FollowRequest (l : List TRule) (A0 : Option Addr) (n0 c0 lo hi : Nat) (q : TRequest) (w : World) (hn : n0 ≤ 1048576) (hr : Rd w lo hi 8 A0 n0 (cRule l)) (H : Hid (cRuleOk l)) (hq : Hid (TRequest.fit q)) :
    Calls Try.prog 46 #[.slice A0 n0 c0, vReq q] w (MakesOutcome (mFol l q).c (mFol l q).s (mFol l q).p.length (mFol l q).p w) := by
  have HR := Lib.hid (hr.old (by decide))
  have CI := Lib.hid (fun W => impl_IsRequest q W)
  have KQ0 := Lib.hid ((box_new w 57 #[.int .i64 q.f0, .int .i64 q.f1, .int .i64 q.f2]).alloc_ (.cells #[.int .i64 0, .int .i64 0, .int .i64 0, .slice none 0 0] 71))
  have KO0 : Hid (BoxAt ((w.alloc (.cells #[.int .i64 q.f0, .int .i64 q.f1, .int .i64 q.f2] 57)).alloc (.cells #[.int .i64 0, .int .i64 0, .int .i64 0, .slice none 0 0] 71)) (w.heap.size + 1) 71 #[.int .i64 0, .int .i64 0, .int .i64 0, .slice none 0 0]) := Lib.hid (by simpa using box_new (w.alloc (.cells #[.int .i64 q.f0, .int .i64 q.f1, .int .i64 q.f2] 57)) 71 #[.int .i64 0, .int .i64 0, .int .i64 0, .slice none 0 0])
  have HB0 : Hid (Below w.heap.size w ((w.alloc (.cells #[.int .i64 q.f0, .int .i64 q.f1, .int .i64 q.f2] 57)).alloc (.cells #[.int .i64 0, .int .i64 0, .int .i64 0, .slice none 0 0] 71))) := Lib.hid (((Below.refl _ _).alloc (Nat.le_refl _) _).alloc (by simp) _)
  have hmm := make_mapS
  have HSF := Lib.hid (show ({ f0 := q.f0, f1 := q.f1 } : TSite).fit from ⟨hq.out.1, hq.out.2.1⟩)
  have HV : Hid (mFol l q = if mIsRequest q = true then fol l q.f2 7 [] ⟨q.f0, q.f1⟩ else ⟨0, ⟨0, 0⟩, []⟩) := Lib.hid rfl
  generalize mFol l q = R at HV ⊢
  generalize mIsRequest q = qi at HV CI
  clear hr
  go_enter Try.func46, Try.ntmps46
  go_wp2_with fail
  refine (CI.out _).mono ?_
  rintro e1 w1 ⟨rfl, hb1⟩
  have KQ1 := Lib.hid (KQ0.out.new hb1)
  have KO1 := Lib.hid (KO0.out.new hb1)
  have HB1 := Lib.hid (below_trans HB0.out hb1 (by simp <;> omega))
  have hw1 : w.heap.size + 1 < w1.heap.size := KO1.out.lt
  clear hb1 KQ0 KO0 HB0
  cases qi with
  | false =>
    have HE := Lib.hid (show R = ⟨0, ⟨0, 0⟩, []⟩ from HV.out)
    have z0 := KO1.out.at_ (j := 0) (u := .int .i64 0) rfl
    have z1 := KO1.out.at_ (j := 1) (u := .int .i64 0) rfl
    have z2 := KO1.out.at_ (j := 2) (u := .int .i64 0) rfl
    have z3 := KO1.out.at_ (j := 3) (u := .slice none 0 0) rfl
    have y0 := KO1.out.free 0
    have y1 := KO1.out.free 1
    have y2 := KO1.out.free 2
    have y3 := KO1.out.free 3
    have HKOf := Lib.hid (boxS_put (boxS_put (boxS_put (boxS_put KO1.out 0 (.int .i64 0)) 1 (.int .i64 0)) 2 (.int .i64 0)) 3 (.slice none 0 0))
    go_wp2_with fail
    have x0 := HKOf.out.at_ (j := 0) (u := .int .i64 0) rfl
    have x1 := HKOf.out.at_ (j := 1) (u := .int .i64 0) rfl
    have x2 := HKOf.out.at_ (j := 2) (u := .int .i64 0) rfl
    have x3 := HKOf.out.at_ (j := 3) (u := .slice none 0 0) rfl
    refine bodyPost_ret (v := .agg #[.int .i64 0, .int .i64 0, .int .i64 0, .slice none 0 0]) (by simp [results, Try.results46, go_sem, x0, x1, x2, x3]) rfl ?_
    rw [HE.out]
    have hwO : w.heap.size ≤ w.heap.size + 1 := Nat.le_succ _
    exact out_made (s := ⟨0, 0⟩) (p := []) (base := w.heap.size) (.inr ⟨rfl, rfl, _, rfl⟩) (Nat.le_refl _) (by have := HB1.out.size; simp only [World.size_setCell]; omega) ((((HB1.out.setCell hwO _).setCell hwO _).setCell hwO _).setCell hwO _) rfl
  | true =>
    have HRV := Lib.hid (show fol l q.f2 7 [] ⟨q.f0, q.f1⟩ = R from HV.out.symm)
    have KQv := Lib.hid (((KQ1.out.alloc_ (.map #[] 0)).alloc_ (.cells #[] 27)).alloc_ (.cells #[.slice (some ⟨w1.heap.size + 1, 0, none⟩) 0 0] 69))
    have KOv := Lib.hid (((KO1.out.alloc_ (.map #[] 0)).alloc_ (.cells #[] 27)).alloc_ (.cells #[.slice (some ⟨w1.heap.size + 1, 0, none⟩) 0 0] 69))
    have KPv : Hid (BoxAt (((w1.alloc (.map #[] 0)).alloc (.cells #[] 27)).alloc (.cells #[.slice (some ⟨w1.heap.size + 1, 0, none⟩) 0 0] 69)) (w1.heap.size + 1 + 1) 69 #[.slice (some ⟨w1.heap.size + 1, 0, none⟩) 0 0]) := Lib.hid (by simpa using box_new ((w1.alloc (.map #[] 0)).alloc (.cells #[] 27)) 69 #[.slice (some ⟨w1.heap.size + 1, 0, none⟩) 0 0])
    have HMv := Lib.hid (((mapS_made w1).alloc_ (.cells #[] 27)).alloc_ (.cells #[.slice (some ⟨w1.heap.size + 1, 0, none⟩) 0 0] 69))
    have HBv : Hid (Below w.heap.size w (((w1.alloc (.map #[] 0)).alloc (.cells #[] 27)).alloc (.cells #[.slice (some ⟨w1.heap.size + 1, 0, none⟩) 0 0] 69))) := Lib.hid (by have := HB1.out.size; exact ((HB1.out.alloc (by omega) _).alloc (by simp <;> omega) _).alloc (by simp <;> omega) _)
    have HSv : Hid ((((w1.alloc (.map #[] 0)).alloc (.cells #[] 27)).alloc (.cells #[.slice (some ⟨w1.heap.size + 1, 0, none⟩) 0 0] 69)).heap.size = w1.heap.size + 3) := Lib.hid (by simp)
    go_wp2_with fail
    obtain ⟨Q, hQ⟩ : ∃ Q, Q = w.heap.size := ⟨_, rfl⟩
    obtain ⟨O, hO⟩ : ∃ O, O = w.heap.size + 1 := ⟨_, rfl⟩
    obtain ⟨M, hM⟩ : ∃ M, M = w1.heap.size := ⟨_, rfl⟩
    obtain ⟨P, hP⟩ : ∃ P, P = w1.heap.size + 1 + 1 := ⟨_, rfl⟩
    obtain ⟨L, hL⟩ : ∃ L, L = w1.heap.size + 1 := ⟨_, rfl⟩
    generalize hVV : (((w1.alloc (.map #[] 0)).alloc (.cells #[] 27)).alloc (.cells #[.slice (some ⟨w1.heap.size + 1, 0, none⟩) 0 0] 69)) = V at KQv KOv KPv HMv HBv HSv ⊢
    obtain ⟨base, hbs⟩ : ∃ b, b = V.heap.size := ⟨_, rfl⟩
    have HSW := HSv.out
    have HL0 := Lib.hid (show OwnZ V base 27 2 (.slice (some ⟨L, 0, none⟩) 0 0) 0 (cSite []) from .inr ⟨rfl, rfl, _, rfl⟩)
    rw [← hO, ← hP, ← hQ]
    rw [← hQ] at KQv
    rw [← hO] at KOv
    rw [← hP, ← hL] at KPv
    rw [← hM] at HMv
    try rw [← hL]
    rw [← hM]
    have hQO : Q < O := by omega
    have hOM : O < M := by omega
    have hMP : M < P := by omega
    have hPb : P < base := by omega
    have hwO : w.heap.size ≤ O := by omega
    have hwQ : w.heap.size ≤ Q := by omega
    have hwP : w.heap.size ≤ P := by omega
    have hwM : w.heap.size ≤ M := by omega
    have hwb : w.heap.size ≤ base := by omega
    have HBb0 : Hid (base ≤ V.heap.size) := Lib.hid (Nat.le_of_eq hbs)
    clear hVV hbs HSW HSv hQ hO hM hP hL KQ1 KO1 hw1
    generalize q.f2 = k at KQv HRV
    go_loopg [9] 7 (fun gg v wr => ∃ (p : List TSite) (s : TSite) (A : Option Addr) (n c : Nat), n = p.length ∧ n ≤ 6 ∧ 7 - n ≤ gg ∧ Hid (fol l k (7 - n) p s = R) ∧ Hid s.fit ∧ Hid (BoxAt wr Q 57 #[.int .i64 s.f0, .int .i64 s.f1, .int .i64 k]) ∧ Hid (BoxAt wr O 71 #[.int .i64 0, .int .i64 0, .int .i64 0, .slice none 0 0]) ∧ Hid (BoxAt wr P 69 #[.slice A n c]) ∧ Hid (MapS wr M n (fun x => decide (x ∈ p))) ∧ Hid (OwnZ wr base 27 2 (.slice A n c) n (cSite p)) ∧ Hid (Below w.heap.size w wr) ∧ Hid (base ≤ wr.heap.size))
    case atStart => exact ⟨[], ⟨q.f0, q.f1⟩, _, 0, 0, rfl, by omega, by omega, HRV, HSF, KQv, KOv, KPv, Lib.hid (HMv.out.congr_ (fun x => by simp)), HL0, HBv, HBb0⟩
    case round =>
      obtain ⟨p, s, A, n, c, hnp, hn6, hgg, HF, HS, KQ, KO, KP, HM, HO, HB, HBb⟩ := hrel
      have HNP := Lib.hid hnp
      have q0 := KQ.out.at_ (j := 0) (u := .int .i64 s.f0) rfl
      have q1 := KQ.out.at_ (j := 1) (u := .int .i64 s.f1) rfl
      have q2 := KQ.out.at_ (j := 2) (u := .int .i64 k) rfl
      have p0 := KP.out.at_ (j := 0) (u := .slice A n c) rfl
      have hlk := HM.out.look s HS.out
      have hMl := HM.out.lt
      obtain ⟨f, hf⟩ : ∃ f, 7 - n = f + 1 := ⟨6 - n, by omega⟩
      have HF1 := Lib.hid (show fol l k (f + 1) p s = R by rw [← hf]; exact HF.out)
      clear hnp
      by_cases hm : s ∈ p
      · rw [decide_eq_true hm] at hlk
        have HE := Lib.hid (fol_loop HF1.out hm)
        clear hm
        go_wp2_with fail
        refine (end_any 3 s k A n c Q P _ KQ.out KP.out).mono ?_
        rintro ee we ⟨rfl, hbe⟩
        have KOe := KO.out.new hbe
        have HOe := Lib.hid (ownS_newer HO.out hbe)
        have HBe := Lib.hid (below_trans HB.out hbe (Nat.le_refl _))
        have z0 := KOe.at_ (j := 0) (u := .int .i64 0) rfl
        have z1 := KOe.at_ (j := 1) (u := .int .i64 0) rfl
        have z2 := KOe.at_ (j := 2) (u := .int .i64 0) rfl
        have z3 := KOe.at_ (j := 3) (u := .slice none 0 0) rfl
        have y0 := KOe.free 0
        have y1 := KOe.free 1
        have y2 := KOe.free 2
        have y3 := KOe.free 3
        have hbes := hbe.size
        have KOf := boxS_put (boxS_put (boxS_put (boxS_put KOe 0 (.int .i64 3)) 1 (.int .i64 s.f0)) 2 (.int .i64 s.f1)) 3 (.slice A n c)
        have HKOf := Lib.hid KOf
        clear hbe KOe KOf
        go_wp2_with fail
        have x0 := HKOf.out.at_ (j := 0) (u := .int .i64 3) rfl
        have x1 := HKOf.out.at_ (j := 1) (u := .int .i64 s.f0) rfl
        have x2 := HKOf.out.at_ (j := 2) (u := .int .i64 s.f1) rfl
        have x3 := HKOf.out.at_ (j := 3) (u := .slice A n c) rfl
        refine bodyPost_ret (v := .agg #[.int .i64 3, .int .i64 s.f0, .int .i64 s.f1, .slice A n c]) (by simp [results, Try.results46, go_sem, x0, x1, x2, x3]) rfl ?_
        rw [HE.out]
        refine out_made (base := base) (own_chgS HOe.out ((((Chg.refl O (O + 1) we).set_ (.inl ⟨Nat.le_refl _, Nat.lt_succ_self _⟩) _).set_ (.inl ⟨Nat.le_refl _, Nat.lt_succ_self _⟩) _).set_ (.inl ⟨Nat.le_refl _, Nat.lt_succ_self _⟩) _ |>.set_ (.inl ⟨Nat.le_refl _, Nat.lt_succ_self _⟩) _) (by omega)) hwb (by have := HBb.out; have := hbes; simp only [World.size_setCell]; omega) ?_ HNP.out
        exact (((HBe.out.setCell hwO _).setCell hwO _).setCell hwO _).setCell hwO _
      · rw [decide_eq_false hm] at hlk
        have HNM := Lib.hid hm
        clear hm
        by_cases h6 : n = 6
        · have g6 : ((n : Int) == 6) = true := by simp; omega
          have HE := Lib.hid (fol_long HF1.out HNM.out (by rw [← HNP.out]; exact h6))
          clear h6
          go_wp2_with fail
          refine (end_any 4 s k A n c Q P _ KQ.out KP.out).mono ?_
          rintro ee we ⟨rfl, hbe⟩
          have KOe := KO.out.new hbe
          have HOe := Lib.hid (ownS_newer HO.out hbe)
          have HBe := Lib.hid (below_trans HB.out hbe (Nat.le_refl _))
          have z0 := KOe.at_ (j := 0) (u := .int .i64 0) rfl
          have z1 := KOe.at_ (j := 1) (u := .int .i64 0) rfl
          have z2 := KOe.at_ (j := 2) (u := .int .i64 0) rfl
          have z3 := KOe.at_ (j := 3) (u := .slice none 0 0) rfl
          have y0 := KOe.free 0
          have y1 := KOe.free 1
          have y2 := KOe.free 2
          have y3 := KOe.free 3
          have hbes := hbe.size
          have KOf := boxS_put (boxS_put (boxS_put (boxS_put KOe 0 (.int .i64 4)) 1 (.int .i64 s.f0)) 2 (.int .i64 s.f1)) 3 (.slice A n c)
          have HKOf := Lib.hid KOf
          clear hbe KOe KOf
          go_wp2_with fail
          have x0 := HKOf.out.at_ (j := 0) (u := .int .i64 4) rfl
          have x1 := HKOf.out.at_ (j := 1) (u := .int .i64 s.f0) rfl
          have x2 := HKOf.out.at_ (j := 2) (u := .int .i64 s.f1) rfl
          have x3 := HKOf.out.at_ (j := 3) (u := .slice A n c) rfl
          refine bodyPost_ret (v := .agg #[.int .i64 4, .int .i64 s.f0, .int .i64 s.f1, .slice A n c]) (by simp [results, Try.results46, go_sem, x0, x1, x2, x3]) rfl ?_
          rw [HE.out]
          refine out_made (base := base) (own_chgS HOe.out ((((Chg.refl O (O + 1) we).set_ (.inl ⟨Nat.le_refl _, Nat.lt_succ_self _⟩) _).set_ (.inl ⟨Nat.le_refl _, Nat.lt_succ_self _⟩) _).set_ (.inl ⟨Nat.le_refl _, Nat.lt_succ_self _⟩) _ |>.set_ (.inl ⟨Nat.le_refl _, Nat.lt_succ_self _⟩) _) (by omega)) hwb (by have := HBb.out; have := hbes; simp only [World.size_setCell]; omega) ?_ HNP.out
          exact (((HBe.out.setCell hwO _).setCell hwO _).setCell hwO _).setCell hwO _
        · have g6 : ((n : Int) == 6) = false := by simp; omega
          have HN6 := Lib.hid (show ¬ p.length = 6 by rw [← HNP.out]; exact h6)
          have hn5 : n ≤ 5 := by omega
          clear h6
          have p0f := KP.out.free 0
          go_wp2_with (first
            | (at_mapUpdate; refine wp_maps_put rfl _ _ _ _ rfl Try.underlying177 M n _ rfl HM.out (by unfold maxLen; omega) s true rfl rfl HS.out ?_; intro w2 hm2 hg2; have HM2 := Lib.hid (hm2.congr_ (s' := fun x => decide (x ∈ p ++ [s])) (fun x => by by_cases e : x = s <;> simp [e])); have KQ2 := Lib.hid (KQ.out.grown hg2 (by omega)); have KO2 := Lib.hid (KO.out.grown hg2 (by omega)); have KP2 := Lib.hid (KP.out.grown hg2 (by omega)); have HO2 := Lib.hid (own_chgS HO.out (chg_of_grown hg2) (by omega)); have HB2 := Lib.hid (grown_below HB.out hg2 (Nat.le_refl _) (fun k hk => by injection hk with hk; omega)); have HBb2 := Lib.hid (Nat.le_trans HBb.out hg2.size); have q02 := KQ2.out.at_ (j := 0) (u := .int .i64 s.f0) rfl; have q12 := KQ2.out.at_ (j := 1) (u := .int .i64 s.f1) rfl; have p02 := KP2.out.at_ (j := 0) (u := .slice A n c) rfl; clear hm2 hg2)
            | (at_builtin; refine wp_appz_lit rfl _ _ _ rfl base 27 (.agg #[.int .i64 0, .int .i64 0]) 2 16 Try.underlying69 icSite rfl (by decide) _ _ _ rfl HO2.out #[.int .i64 s.f0, .int .i64 s.f1] 1 1 _ rfl (by simp) rfl (by intro u hu; simp at hu; rcases hu with rfl | rfl <;> rfl) (by unfold maxLen; omega) (by omega) HBb2.out ?_; intro v3 w3 ho3 hb3; obtain ⟨A3, c3, rfl, _⟩ := fr_of_ownz ho3; have HO3 := Lib.hid ho3; have KQ3 := Lib.hid (KQ2.out.keep (hb3.block Q (by omega))); have KO3 := Lib.hid (KO2.out.keep (hb3.block O (by omega))); have KP3 := Lib.hid (KP2.out.keep (hb3.block P (by omega))); have HM3 := Lib.hid (HM2.out.below_ hb3 (by omega)); have HB3 := Lib.hid (HB2.out.trans (hb3.mono hwb)); have HBb3 := Lib.hid (Nat.le_trans HBb2.out hb3.size); have q03 := KQ3.out.at_ (j := 0) (u := .int .i64 s.f0) rfl; have q13 := KQ3.out.at_ (j := 1) (u := .int .i64 s.f1) rfl; have q23 := KQ3.out.at_ (j := 2) (u := .int .i64 k) rfl; have p03 := KP3.out.at_ (j := 0) (u := .slice A n c) rfl; have p0f3 := KP3.out.free 0; have hPQ : P ≠ Q := (by omega); have hQl3 := KQ3.out.lt; have hPl3 := KP3.out.lt; clear ho3 hb3))
          have KQ4 := Lib.hid (boxS_past (p := ⟨P, 0, none⟩) (v := .slice A3 (n + 1) c3) KQ3.out (show P ≠ Q by omega))
          have KO4 := Lib.hid (boxS_past (p := ⟨P, 0, none⟩) (v := .slice A3 (n + 1) c3) KO3.out (show P ≠ O by omega))
          have KP4 := Lib.hid (boxS_put KP3.out 0 (.slice A3 (n + 1) c3))
          have HM4 := Lib.hid (mapS_past (p := ⟨P, 0, none⟩) (v := .slice A3 (n + 1) c3) HM3.out (show P ≠ M by omega))
          have HO4 := Lib.hid (show OwnZ (w3.setCell ⟨P, 0, none⟩ (.slice A3 (n + 1) c3)) base 27 2 (.slice A3 (n + 1) c3) (n + 1) (cSite (p ++ [s])) from own_chgS (lo := P) (hi := P + 1) (by simpa [cSite, List.flatMap_append, TSite.cells] using HO3.out) ((Chg.refl P (P + 1) w3).set_ (.inl ⟨Nat.le_refl _, Nat.lt_succ_self _⟩) _) (by omega))
          have HB4 := Lib.hid (HB3.out.setCell (p := ⟨P, 0, none⟩) hwP (.slice A3 (n + 1) c3))
          have HBb4 : Hid (base ≤ (w3.setCell ⟨P, 0, none⟩ (.slice A3 (n + 1) c3)).heap.size) := Lib.hid (by have := HBb3.out; simp only [World.size_setCell]; exact this)
          generalize w3.setCell ⟨P, 0, none⟩ (.slice A3 (n + 1) c3) = w4 at KQ4 KO4 KP4 HM4 HO4 HB4 HBb4 ⊢
          have HN1 := Lib.hid (show n + 1 = (p ++ [s]).length by rw [List.length_append, ← HNP.out]; rfl)
          clear KQ3 KO3 KP3 HM3 HO3 HB3 HBb3 KQ2 KO2 KP2 HM2 HO2 HB2 HBb2 q02 q12 p02 q03 q13 q23 p03 p0f3 KQ KO KP HM HO q0 q1 q2 p0 p0f hlk
          have CD := Lib.hid (show Calls Try.prog 159 #[.slice A0 n0 c0, .agg #[.int .i64 s.f0, .int .i64 s.f1, .int .i64 k]] w4 (Says (.tuple #[vRule (mGot l (reqAt s k)), .bool (mDecides l (reqAt s k))]) w4) from impl_decided l A0 n0 c0 0 w.heap.size (reqAt s k) w4 hn (HR.out.below HB4.out (Nat.le_refl _)) H)
          have D1 := Lib.hid (fun h => fol_done HF1.out HNM.out HN6.out h)
          have D2 := Lib.hid (fun h => fol_stop HF1.out HNM.out HN6.out h)
          have D3 := Lib.hid (fun h => fol_on HF1.out HNM.out HN6.out h)
          have D4 := Lib.hid (fun h => to_fit (q := reqAt s k) H.out h)
          generalize mGot l (reqAt s k) = r at CD D1 D2 D3 D4
          generalize mDecides l (reqAt s k) = d at CD D1 D2 D3 D4
          refine CD.out.mono ?_
          rintro ed w5 ⟨rfl, hb5⟩
          have HRb := Lib.hid (box_new w5 165 #[.int .i64 r.f0, .int .i64 r.f1, .int .i64 r.f2, .int .i64 r.f3, .int .i64 r.f4, .int .i64 r.f5, .int .i64 r.f6, .int .i64 r.f7])
          have KQ5 := Lib.hid (KQ4.out.new hb5)
          have KO5 := Lib.hid (KO4.out.new hb5)
          have KP5 := Lib.hid (KP4.out.new hb5)
          have HM5 := Lib.hid (HM4.out.new hb5)
          have HO5 := Lib.hid (ownS_newer HO4.out hb5)
          have HBb5 := Lib.hid (Nat.le_trans HBb4.out hb5.size)
          have KQ6 := Lib.hid ((KQ4.out.new hb5).alloc_ (.cells #[.int .i64 r.f0, .int .i64 r.f1, .int .i64 r.f2, .int .i64 r.f3, .int .i64 r.f4, .int .i64 r.f5, .int .i64 r.f6, .int .i64 r.f7] 165))
          have KO6 := Lib.hid ((KO4.out.new hb5).alloc_ (.cells #[.int .i64 r.f0, .int .i64 r.f1, .int .i64 r.f2, .int .i64 r.f3, .int .i64 r.f4, .int .i64 r.f5, .int .i64 r.f6, .int .i64 r.f7] 165))
          have KP6 := Lib.hid ((KP4.out.new hb5).alloc_ (.cells #[.int .i64 r.f0, .int .i64 r.f1, .int .i64 r.f2, .int .i64 r.f3, .int .i64 r.f4, .int .i64 r.f5, .int .i64 r.f6, .int .i64 r.f7] 165))
          have HM6 := Lib.hid ((HM4.out.new hb5).alloc_ (.cells #[.int .i64 r.f0, .int .i64 r.f1, .int .i64 r.f2, .int .i64 r.f3, .int .i64 r.f4, .int .i64 r.f5, .int .i64 r.f6, .int .i64 r.f7] 165))
          have HO6 := Lib.hid ((ownS_newer HO4.out hb5).alloc (.cells #[.int .i64 r.f0, .int .i64 r.f1, .int .i64 r.f2, .int .i64 r.f3, .int .i64 r.f4, .int .i64 r.f5, .int .i64 r.f6, .int .i64 r.f7] 165))
          have HB5 := Lib.hid (below_trans HB4.out hb5 (Nat.le_refl _))
          have HB6 := Lib.hid (HB5.out.alloc HB5.out.size (.cells #[.int .i64 r.f0, .int .i64 r.f1, .int .i64 r.f2, .int .i64 r.f3, .int .i64 r.f4, .int .i64 r.f5, .int .i64 r.f6, .int .i64 r.f7] 165))
          have HBb6 : Hid (base ≤ (w5.alloc (.cells #[.int .i64 r.f0, .int .i64 r.f1, .int .i64 r.f2, .int .i64 r.f3, .int .i64 r.f4, .int .i64 r.f5, .int .i64 r.f6, .int .i64 r.f7] 165)).heap.size) := Lib.hid (by have := HBb4.out; have := hb5.size; simp; omega)
          have hQ5 : Q < w5.heap.size := (KQ4.out.new hb5).lt
          have hPR : Hid (Q ≠ w5.heap.size) := Lib.hid (by omega)
          clear hb5 CD KQ4 KO4 KP4 HM4 HO4 HB4 HBb4
          cases d with
          | false =>
            have HE := Lib.hid (D1.out (.inl rfl))
            go_wp2_with fail
            refine (end_any 1 s k A3 (n + 1) c3 Q P _ KQ6.out KP6.out).mono ?_
            rintro ee we ⟨rfl, hbe⟩
            have KOe := KO6.out.new hbe
            have HOe := Lib.hid (ownS_newer HO6.out hbe)
            have HBe := Lib.hid (below_trans HB6.out hbe (Nat.le_refl _))
            have z0 := KOe.at_ (j := 0) (u := .int .i64 0) rfl
            have z1 := KOe.at_ (j := 1) (u := .int .i64 0) rfl
            have z2 := KOe.at_ (j := 2) (u := .int .i64 0) rfl
            have z3 := KOe.at_ (j := 3) (u := .slice none 0 0) rfl
            have y0 := KOe.free 0
            have y1 := KOe.free 1
            have y2 := KOe.free 2
            have y3 := KOe.free 3
            have hbes := hbe.size
            have KOf := boxS_put (boxS_put (boxS_put (boxS_put KOe 0 (.int .i64 1)) 1 (.int .i64 s.f0)) 2 (.int .i64 s.f1)) 3 (.slice A3 (n + 1) c3)
            have HKOf := Lib.hid KOf
            clear hbe KOe KOf
            go_wp2_with fail
            have x0 := HKOf.out.at_ (j := 0) (u := .int .i64 1) rfl
            have x1 := HKOf.out.at_ (j := 1) (u := .int .i64 s.f0) rfl
            have x2 := HKOf.out.at_ (j := 2) (u := .int .i64 s.f1) rfl
            have x3 := HKOf.out.at_ (j := 3) (u := .slice A3 (n + 1) c3) rfl
            refine bodyPost_ret (v := .agg #[.int .i64 1, .int .i64 s.f0, .int .i64 s.f1, .slice A3 (n + 1) c3]) (by simp [results, Try.results46, go_sem, x0, x1, x2, x3]) rfl ?_
            rw [HE.out]
            refine out_made (base := base) (own_chgS HOe.out ((((Chg.refl O (O + 1) we).set_ (.inl ⟨Nat.le_refl _, Nat.lt_succ_self _⟩) _).set_ (.inl ⟨Nat.le_refl _, Nat.lt_succ_self _⟩) _).set_ (.inl ⟨Nat.le_refl _, Nat.lt_succ_self _⟩) _ |>.set_ (.inl ⟨Nat.le_refl _, Nat.lt_succ_self _⟩) _) (by omega)) hwb (by have := HBb6.out; have := hbes; simp only [World.size_setCell]; omega) ?_ HN1.out
            exact (((HBe.out.setCell hwO _).setCell hwO _).setCell hwO _).setCell hwO _
          | true =>
            by_cases h1 : r.f5 = 1
            · have g1 : (r.f5 == 1) = true := by simpa using h1
              have HE := Lib.hid (D1.out (.inr h1))
              clear h1
              go_wp2_with fail
              refine (end_any 1 s k A3 (n + 1) c3 Q P _ KQ6.out KP6.out).mono ?_
              rintro ee we ⟨rfl, hbe⟩
              have KOe := KO6.out.new hbe
              have HOe := Lib.hid (ownS_newer HO6.out hbe)
              have HBe := Lib.hid (below_trans HB6.out hbe (Nat.le_refl _))
              have z0 := KOe.at_ (j := 0) (u := .int .i64 0) rfl
              have z1 := KOe.at_ (j := 1) (u := .int .i64 0) rfl
              have z2 := KOe.at_ (j := 2) (u := .int .i64 0) rfl
              have z3 := KOe.at_ (j := 3) (u := .slice none 0 0) rfl
              have y0 := KOe.free 0
              have y1 := KOe.free 1
              have y2 := KOe.free 2
              have y3 := KOe.free 3
              have hbes := hbe.size
              have KOf := boxS_put (boxS_put (boxS_put (boxS_put KOe 0 (.int .i64 1)) 1 (.int .i64 s.f0)) 2 (.int .i64 s.f1)) 3 (.slice A3 (n + 1) c3)
              have HKOf := Lib.hid KOf
              clear hbe KOe KOf
              go_wp2_with fail
              have x0 := HKOf.out.at_ (j := 0) (u := .int .i64 1) rfl
              have x1 := HKOf.out.at_ (j := 1) (u := .int .i64 s.f0) rfl
              have x2 := HKOf.out.at_ (j := 2) (u := .int .i64 s.f1) rfl
              have x3 := HKOf.out.at_ (j := 3) (u := .slice A3 (n + 1) c3) rfl
              refine bodyPost_ret (v := .agg #[.int .i64 1, .int .i64 s.f0, .int .i64 s.f1, .slice A3 (n + 1) c3]) (by simp [results, Try.results46, go_sem, x0, x1, x2, x3]) rfl ?_
              rw [HE.out]
              refine out_made (base := base) (own_chgS HOe.out ((((Chg.refl O (O + 1) we).set_ (.inl ⟨Nat.le_refl _, Nat.lt_succ_self _⟩) _).set_ (.inl ⟨Nat.le_refl _, Nat.lt_succ_self _⟩) _).set_ (.inl ⟨Nat.le_refl _, Nat.lt_succ_self _⟩) _ |>.set_ (.inl ⟨Nat.le_refl _, Nat.lt_succ_self _⟩) _) (by omega)) hwb (by have := HBb6.out; have := hbes; simp only [World.size_setCell]; omega) ?_ HN1.out
              exact (((HBe.out.setCell hwO _).setCell hwO _).setCell hwO _).setCell hwO _
            · have g1 : (r.f5 == 1) = false := by simpa using h1
              by_cases h2 : r.f5 = 2
              · have g2 : (r.f5 == 2) = true := by simpa using h2
                have HE := Lib.hid (D2.out rfl h1 h2)
                clear h1 h2
                go_wp2_with fail
                refine (end_any 2 s k A3 (n + 1) c3 Q P _ KQ6.out KP6.out).mono ?_
                rintro ee we ⟨rfl, hbe⟩
                have KOe := KO6.out.new hbe
                have HOe := Lib.hid (ownS_newer HO6.out hbe)
                have HBe := Lib.hid (below_trans HB6.out hbe (Nat.le_refl _))
                have z0 := KOe.at_ (j := 0) (u := .int .i64 0) rfl
                have z1 := KOe.at_ (j := 1) (u := .int .i64 0) rfl
                have z2 := KOe.at_ (j := 2) (u := .int .i64 0) rfl
                have z3 := KOe.at_ (j := 3) (u := .slice none 0 0) rfl
                have y0 := KOe.free 0
                have y1 := KOe.free 1
                have y2 := KOe.free 2
                have y3 := KOe.free 3
                have hbes := hbe.size
                have KOf := boxS_put (boxS_put (boxS_put (boxS_put KOe 0 (.int .i64 2)) 1 (.int .i64 s.f0)) 2 (.int .i64 s.f1)) 3 (.slice A3 (n + 1) c3)
                have HKOf := Lib.hid KOf
                clear hbe KOe KOf
                go_wp2_with fail
                have x0 := HKOf.out.at_ (j := 0) (u := .int .i64 2) rfl
                have x1 := HKOf.out.at_ (j := 1) (u := .int .i64 s.f0) rfl
                have x2 := HKOf.out.at_ (j := 2) (u := .int .i64 s.f1) rfl
                have x3 := HKOf.out.at_ (j := 3) (u := .slice A3 (n + 1) c3) rfl
                refine bodyPost_ret (v := .agg #[.int .i64 2, .int .i64 s.f0, .int .i64 s.f1, .slice A3 (n + 1) c3]) (by simp [results, Try.results46, go_sem, x0, x1, x2, x3]) rfl ?_
                rw [HE.out]
                refine out_made (base := base) (own_chgS HOe.out ((((Chg.refl O (O + 1) we).set_ (.inl ⟨Nat.le_refl _, Nat.lt_succ_self _⟩) _).set_ (.inl ⟨Nat.le_refl _, Nat.lt_succ_self _⟩) _).set_ (.inl ⟨Nat.le_refl _, Nat.lt_succ_self _⟩) _ |>.set_ (.inl ⟨Nat.le_refl _, Nat.lt_succ_self _⟩) _) (by omega)) hwb (by have := HBb6.out; have := hbes; simp only [World.size_setCell]; omega) ?_ HN1.out
                exact (((HBe.out.setCell hwO _).setCell hwO _).setCell hwO _).setCell hwO _
              · have g2 : (r.f5 == 2) = false := by simpa using h2
                have HF2 := Lib.hid (D3.out rfl h1 h2)
                have HT := Lib.hid (D4.out rfl)
                clear h1 h2
                have v0 := KQ5.out.free 0
                have v1 := KQ5.out.free 1
                have u0 := KQ5.out.at_ (j := 0) (u := .int .i64 s.f0) rfl
                have u1 := KQ5.out.at_ (j := 1) (u := .int .i64 s.f1) rfl
                go_wp2_with fail
                go_roundg (7 - (n + 1))
                case measure => omega
                case rel =>
                  exact ⟨p ++ [s], ⟨r.f6, r.f7⟩, A3, n + 1, c3, HN1.out, by omega, by omega, Lib.hid (by rw [show 7 - (n + 1) = f by omega]; exact HF2.out), HT, Lib.hid ((boxS_put (boxS_put KQ5.out 0 (.int .i64 r.f6)) 1 (.int .i64 r.f7)).alloc_ _),
                    Lib.hid ((boxS_past (boxS_past KO5.out (show Q ≠ O by omega)) (show Q ≠ O by omega)).alloc_ _), Lib.hid ((boxS_past (boxS_past KP5.out (show Q ≠ P by omega)) (show Q ≠ P by omega)).alloc_ _), Lib.hid ((mapS_past (mapS_past HM5.out (show Q ≠ M by omega)) (show Q ≠ M by omega)).alloc_ _),
                    Lib.hid ((own_chgS HO5.out (((Chg.refl Q (Q + 1) _).set_ (.inl ⟨Nat.le_refl _, Nat.lt_succ_self _⟩) _).set_ (.inl ⟨Nat.le_refl _, Nat.lt_succ_self _⟩) _) (by omega)).alloc _), Lib.hid (((HB5.out.setCell hwQ _).setCell hwQ _).alloc (by have := HB5.out.size; simp only [World.size_setCell]; exact this) _), Lib.hid (by have := HBb5.out; simp only [World.size_setCell, World.size_alloc]; omega)⟩
end Go.Proofs.Ytfceddgacefejaa
