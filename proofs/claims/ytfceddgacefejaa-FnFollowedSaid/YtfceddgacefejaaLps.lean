/- IsSettled and LoopsFrom, of the program and of the model. -/
import Derived.Test.YtfceddgacefejaaFolS
import Derived.Test.YtfceddgacefejaaIn
import Derived.Test.YtfceddgacefejaaSlI
import Derived.Test.YtfceddgacefejaaFun
import Derived.Handy
import Derived.Deep.RegionHeld3
import Derived.Deep.LoopGhost
import Derived.IntWalk
namespace Go.Proofs.Ytfceddgacefejaa
open Go Go.ChangeShapes Go.WideShapes Go.ChangeAt Go.RowKit Go.Lib
set_option linter.unusedVariables false
set_option linter.unusedSimpArgs false
set_option maxRecDepth 100000
def rangeI (a : Int) (n : Nat) : List Int := (List.range n).map fun k : Nat => a + (k : Int)
theorem rangeI_len (a : Int) (n : Nat) : (rangeI a n).length = n := by simp [rangeI]
theorem rangeI_get (a : Int) {n k : Nat} (h : k < n) : (rangeI a n)[k]? = some (a + (k : Int)) := by simp [rangeI, h]
theorem rangeI_mem {a x : Int} {n : Nat} (h : x ∈ rangeI a n) : ∃ k : Nat, k < n ∧ x = a + (k : Int) := by
  simp [rangeI] at h
  obtain ⟨k, hk, rfl⟩ := h
  exact ⟨k, hk, rfl⟩
theorem info_intN : (Try.prog.info? 3).map (fun i => (i.zero, i.size, i.bytes)) = some (some (.int .i64 0), 1, 8) := by kernel_rfl
theorem one_intN (z : Int) : ∀ u ∈ (#[Value.int .i64 z]).toList, u.oneCell' = true := by
  intro u hu
  simp only [List.mem_singleton] at hu
  subst hu
  rfl
theorem filt_snoc {α : Type} {p : α → Bool} {l : List α} {k : Nat} {x : α} (h : l[k]? = some x) : (l.take (k + 1)).filter p = if p x = true then (l.take k).filter p ++ [x] else (l.take k).filter p := by
  rw [List.take_add_one, h, Option.toList_some, List.filter_append]
  by_cases hp : p x = true <;> simp [hp]
set_option maxHeartbeats 8000000 in
theorem numbers_LF (p : Int → Bool) (lb : Array Value) (low : Int) (cnt : Nat) (w : World) (hl0 : 0 ≤ low) (hl1 : low ≤ 1000) (hc : cnt ≤ 1048576) (hp : PredB Try.prog 162 lb (fun x : Int => .int .i64 x) p (rangeI low cnt) w) :
    Calls Try.prog 146 #[.int .i64 low, .int .i64 (low + cnt - 1), .func (.func 162) #[] lb] w (Makes 3 1 ((rangeI low cnt).filter p).length (i64s ((rangeI low cnt).filter p)) w) := by
  have HP := Lib.hid hp
  clear hp
  have HRL := Lib.hid (rangeI_len low cnt)
  have HRG := Lib.hid (fun (k : Nat) (h : k < cnt) => rangeI_get low h)
  generalize rangeI low cnt = L at HP HRL HRG ⊢
  go_enter Try.func146, Try.ntmps146
  go_wp2_with fail
  go_loopw [7, 8] (fun v i wr => ∃ k : Nat, k ≤ cnt ∧ i = .int .i64 (low + (k : Int)) ∧ wr.ownsRow w.heap.size 3 1 v ((L.take k).filter p).length (i64s ((L.take k).filter p)) ∧ Below w.heap.size w wr) (fun _ i _ => (low + cnt - intOf i).toNat)
  case atStart => exact ⟨0, Nat.zero_le _, by (congr 1; simp), World.ownsRow_lit w #[] 0 (Nat.le_refl _) (by unfold maxLen; omega) rfl, (Below.refl _ _).alloc (Nat.le_refl _) _⟩
  case round =>
    obtain ⟨k, hk, rfl, hown, hb⟩ := hrel
    have HB := Lib.hid hb
    have HO := Lib.hid hown
    have HS := Lib.hid hb.size
    clear hown hb
    by_cases hlt : k < cnt
    · have HE := Lib.hid (filt_snoc (p := p) (HRG.out k hlt))
      have HN := Lib.hid (Nat.le_trans (List.length_filter_le p (L.take k)) (List.length_take_le _ _))
      have HC := HP.out wr (low + (k : Int)) (mem_of_get (HRG.out k hlt)) HB.out
      have hle : low + (k : Int) ≤ low + (cnt : Int) - 1 := by omega
      have HQ := HE
      cases hq : p (low + (k : Int))
      · rw [hq] at HC
        replace HC := Lib.hid HC
        have H2 := Lib.hid (by have := HE.out; rwa [if_neg (by rw [hq]; decide)] at this)
        clear hq HE HQ
        go_wp2_with (go_at_call 162; refine Calls.mono HC.out ?_; rintro e w1 ⟨rfl, hb1⟩; (have HB1 := Lib.hid (below_trans HB.out hb1 (Nat.le_refl _))); (have HO1 := Lib.hid (own_newer HO.out hb1)); clear hb1)
        go_roundw
        case rel => exact ⟨k + 1, by omega, by (congr 1; omega), by rw [H2.out]; exact HO1.out, HB1.out⟩
        case measure => simp [intOf]; omega
      · rw [hq] at HC
        replace HC := Lib.hid HC
        have H2 := Lib.hid (by have := HE.out; rwa [if_pos hq] at this)
        clear hq HE HQ
        go_wp2_with (first | (go_at_call 162; refine Calls.mono HC.out ?_; rintro e w1 ⟨rfl, hb1⟩; (have HB1 := Lib.hid (below_trans HB.out hb1 (Nat.le_refl _))); (have HO1 := Lib.hid (own_newer HO.out hb1)); (have HS1 := Lib.hid HB1.out.size); clear hb1) | (at_builtin; refine wp_app_lit rfl _ _ _ rfl w.heap.size 3 (.int .i64 0) 1 8 Try.underlying60 info_intN rfl (by decide) _ _ _ rfl HO1.out #[.int .i64 (low + (k : Int))] 1 1 _ rfl (by simp) rfl (one_intN _) (by have := HN.out; unfold maxLen; omega) (by have := HN.out; omega) (by have := HS1.out; omega) ?_; intro v1 w2 ho1 hb1))
        have HO2 := Lib.hid (show w2.ownsRow w.heap.size 3 1 v1 ((L.take (k + 1)).filter p).length (i64s ((L.take (k + 1)).filter p)) by
          rw [H2.out]
          simpa using ho1)
        have HB2 := Lib.hid (HB1.out.trans hb1)
        clear ho1 hb1
        go_wp2_with fail
        go_roundw
        case rel => exact ⟨k + 1, by omega, by (congr 1; omega), HO2.out, HB2.out⟩
        case measure => simp [intOf]; omega
    · obtain rfl : k = cnt := by omega
      have hle : low + (k : Int) - 1 < low + (k : Int) := by omega
      have HO2 := HO.out
      rw [List.take_of_length_le (by rw [HRL.out]; omega)] at HO2
      replace HO2 := Lib.hid HO2
      go_wp2_with fail
      go_ret
      exact makes_of_own HO2.out HB.out
/-- The request with this number to the sites of an owner. -/
def rqTo (o z : Int) : TRequest := ⟨o, z % 10, 1 + z / 10⟩
theorem impl_requestTo (o z : Int) (w : World) (h0 : 0 ≤ z) (h1 : z ≤ 1000) : Calls Try.prog 145 #[.int .i64 o, .int .i64 z] w (Says (.agg #[.int .i64 o, .int .i64 (z % 10), .int .i64 (1 + z / 10)]) w) := by
  have e1 : Int.tmod z 10 = z % 10 := Int.tmod_eq_emod_of_nonneg h0
  have e2 : Int.tdiv z 10 = z / 10 := Int.tdiv_eq_ediv_of_nonneg h0
  have hw : IntKind.i64.wrap (1 + z / 10) = 1 + z / 10 := IntWalk.i64_in _ (by omega)
  go_enter Try.func145, Try.ntmps145
  go_wp2_with fail
  exact bodyPost_ret (v := .agg #[.int .i64 o, .int .i64 (z % 10), .int .i64 (1 + z / 10)]) (by simp [results, Try.results145, go_sem]) rfl ⟨rfl, by repeat (first | exact Below.refl _ _ | (refine Below.alloc ?_ (by first | omega | (simp; done) | (simp <;> omega)) _) | (refine Below.setCell ?_ (by first | omega | (simp; done) | (simp <;> omega)) _))⟩

theorem rq_fit {o : Int} {k : Nat} (h : (Lit.int .i64 o).wf = true) (hk : k < 40) : TRequest.fit (rqTo o (k : Int)) := by
  have := bounds_i64 h
  unfold TRequest.fit rqTo
  refine ⟨by simp only; omega, by simp only; omega, by simp only; omega⟩
theorem out_field0 (z a b : Int) (A : Option Addr) (n c : Nat) (w : World) : (Instr.field 71 (.agg #[.int .i64 z, .int .i64 a, .int .i64 b, .slice A n c]) 0).run Try.prog w = .ok (.int .i64 z) w := by kernel_rfl
theorem rangeI_snoc (k : Nat) : rangeI 0 (k + 1) = rangeI 0 k ++ [(k : Int)] := by
  unfold rangeI
  rw [List.range_succ, List.map_append, List.map_cons, List.map_nil, Int.zero_add]
def mSettled (l : List TRule) (q : TRequest) : Bool := (mFol l q).c == 1 || (mFol l q).c == 2
def isLoop (l : List TRule) (q : TRequest) : Bool := decide ((mFol l q).c = 3)
def mLoops (l : List TRule) (o : Int) : List Int := (rangeI 0 40).filter fun z => isLoop l (rqTo o z)
theorem mLoops_len (l : List TRule) (o : Int) : (mLoops l o).length ≤ 40 := Nat.le_trans (List.length_filter_le _ _) (Nat.le_of_eq (rangeI_len _ _))
theorem isLoop_off (l : List TRule) (o z : Int) (h : inR o 1 9 = false) : isLoop l (rqTo o z) = false := by
  unfold isLoop mFol mIsRequest
  have : mIsSite ⟨(rqTo o z).f0, (rqTo o z).f1⟩ = false := by unfold mIsSite rqTo; simp [h]
  rw [this]; rfl
theorem mLoops_off (l : List TRule) (o : Int) (h : inR o 1 9 = false) : mLoops l o = [] := by
  unfold mLoops
  rw [List.filter_eq_nil_iff]
  intro z _
  rw [isLoop_off l o z h]; simp
set_option maxHeartbeats 4000000 in
theorem impl_IsSettled (l : List TRule) (A : Option Addr) (n c lo hi : Nat) (q : TRequest) (w : World) (h0 : n ≤ 1048576) (hr : Rd w lo hi 8 A n (cRule l)) (b0 : Hid (cRuleOk l)) (f1 : Hid (TRequest.fit q)) :
    Calls Try.prog 51 #[.slice A n c, vReq q] w (Says (.bool (mSettled l q)) w) := by
  have HC := Lib.hid (impl_FollowRequest l A n c lo hi q (w.alloc (.cells #[.int .i64 q.f0, .int .i64 q.f1, .int .i64 q.f2] 57)) h0 (hr.alloc _) b0 f1)
  have HE : Hid (mSettled l q = ((mFol l q).c == 1 || (mFol l q).c == 2)) := Lib.hid rfl
  unfold MakesOutcome at HC
  have hf := out_field0
  generalize mSettled l q = r at HE ⊢
  generalize (mFol l q).c = z at HC HE
  generalize (mFol l q).p.length = pl at HC
  clear hr
  have HB0 := Lib.hid ((Below.refl w.heap.size w).alloc (Nat.le_refl _) (.cells #[.int .i64 q.f0, .int .i64 q.f1, .int .i64 q.f2] 57))
  by_cases h1 : z = 1
  · have g1 : (z == 1) = true := by simpa using h1
    have HR := Lib.hid (show r = true by rw [HE.out, g1]; rfl)
    clear h1 HE
    go_enter Try.func51, Try.ntmps51
    go_wp2_with fail
    refine HC.out.mono ?_
    rintro e w1 ⟨A2, c2, lo2, hi2, rfl, _, _, hb1⟩
    have HB1 := Lib.hid (below_trans HB0.out hb1 (by simp))
    clear hb1 HC
    go_wp2_with fail
    go_ret
    exact ⟨by rw [HR.out]; rfl, HB1.out⟩
  · have g1 : (z == 1) = false := by simpa using h1
    clear h1
    by_cases h2 : z = 2
    · have g2 : (z == 2) = true := by simpa using h2
      have HR := Lib.hid (show r = true by rw [HE.out, g1, g2]; rfl)
      clear h2 HE
      go_enter Try.func51, Try.ntmps51
      go_wp2_with fail
      refine HC.out.mono ?_
      rintro e w1 ⟨A2, c2, lo2, hi2, rfl, _, _, hb1⟩
      have HB1 := Lib.hid (below_trans HB0.out hb1 (by simp))
      clear hb1 HC
      go_wp2_with fail
      go_ret
      exact ⟨by rw [HR.out]; rfl, HB1.out⟩
    · have g2 : (z == 2) = false := by simpa using h2
      have HR := Lib.hid (show r = false by rw [HE.out, g1, g2]; rfl)
      clear h2 HE
      go_enter Try.func51, Try.ntmps51
      go_wp2_with fail
      refine HC.out.mono ?_
      rintro e w1 ⟨A2, c2, lo2, hi2, rfl, _, _, hb1⟩
      have HB1 := Lib.hid (below_trans HB0.out hb1 (by simp))
      clear hb1 HC
      go_wp2_with fail
      go_ret
      exact ⟨by rw [HR.out]; rfl, HB1.out⟩
set_option maxHeartbeats 8000000 in
theorem clo_LF (l : List TRule) (A : Option Addr) (n c lo hi : Nat) (o : Int) (BL BO : Nat) (w : World) (h0 : n ≤ 1048576) (hr : Rd w lo hi 8 A n (cRule l)) (b0 : Hid (cRuleOk l)) (ho1 : (Lit.int .i64 o).wf = true) (hl : BoxAt w BL 55 #[.slice A n c]) (ho : BoxAt w BO 3 #[.int .i64 o]) :
    PredB Try.prog 162 #[.pointer (some ⟨BL, 0, none⟩), .pointer (some ⟨BO, 0, none⟩)] (fun x : Int => .int .i64 x) (fun z => isLoop l (rqTo o z)) (rangeI 0 40) w := fun W z hz hb => by
  obtain ⟨k, hk, rfl⟩ := rangeI_mem hz
  rw [Int.zero_add]
  have KL := hl.new hb
  have KO := ho.new hb
  have HR := Lib.hid (hr.new hb)
  have CQ := Lib.hid (fun V => impl_requestTo o (k : Int) V (by omega) (by omega))
  have hfit : Hid (TRequest.fit (rqTo o (k : Int))) := Lib.hid (rq_fit ho1 hk)
  have CC : Hid (∀ V, Rd V lo hi 8 A n (cRule l) → Calls Try.prog 46 #[.slice A n c, .agg #[.int .i64 o, .int .i64 ((k : Int) % 10), .int .i64 (1 + (k : Int) / 10)]] V (MakesOutcome (mFol l (rqTo o (k : Int))).c (mFol l (rqTo o (k : Int))).s (mFol l (rqTo o (k : Int))).p.length (mFol l (rqTo o (k : Int))).p V)) := Lib.hid (fun V hV => impl_FollowRequest l A n c lo hi (rqTo o (k : Int)) V h0 hV b0 hfit)
  unfold MakesOutcome at CC
  change Calls Try.prog _ #[.int .i64 (k : Int), .pointer (some ⟨BL, 0, none⟩), .pointer (some ⟨BO, 0, none⟩)] _ (Says (.bool (isLoop l (rqTo o (k : Int)))) W)
  have HD : Hid (isLoop l (rqTo o (k : Int)) = decide ((mFol l (rqTo o (k : Int))).c = 3)) := Lib.hid rfl
  generalize isLoop l (rqTo o (k : Int)) = r at HD ⊢
  generalize (mFol l (rqTo o (k : Int))).p.length = pl at CC
  generalize (mFol l (rqTo o (k : Int))).c = zc at CC HD
  replace HD := Lib.hid (show r = (zc == 3) by rw [HD.out]; rw [Bool.eq_iff_iff]; simp)
  have hf := out_field0
  clear hz hb hr hl ho hfit
  go_enter Try.func162, Try.ntmps162
  go_wp2_with fail
  refine wp_region_held_drew (S := fun w' => BoxAt w' BL 55 #[.slice A n c] ∧ BoxAt w' BO 3 #[.int .i64 o] ∧ Below W.heap.size W w') (by kernel_rfl) ?_ (fun hHeld => ?_)
  · exact ⟨KL.drw, KO.drw, (Below.refl _ _).drew⟩
  refine wpAnyH_take (i := 0) (oi := ⟨some 5, _, _, _, _, _⟩) (v := ?_) rfl (by kernel_rfl) (by kernel_rfl) (by kernel_rfl) (fun _ _ _ h => h) (Or.inl ⟨by kernel_rfl, ?_⟩) hHeld ?_
  rotate_left
  focus (intro W hS; have c0_0 := (hS.1).at_ (j := 0) rfl; have c1_0 := (hS.2.1).at_ (j := 0) rfl; clear hS; first | (go_simp; done) | (go_simp; with_reducible rfl))
  try simp only [Act.put, List.setIfInBounds_toArray, List.set_cons_zero, List.set_cons_succ]
  refine wpAnyH_take (i := 1) (oi := ⟨some 6, _, _, _, _, _⟩) (v := ?_) rfl (by kernel_rfl) (by kernel_rfl) (by kernel_rfl) (fun _ _ _ h => h) (Or.inl ⟨by kernel_rfl, ?_⟩) hHeld ?_
  rotate_left
  focus (intro W hS; have c0_0 := (hS.1).at_ (j := 0) rfl; have c1_0 := (hS.2.1).at_ (j := 0) rfl; clear hS; first | (go_simp; done) | (go_simp; with_reducible rfl))
  try simp only [Act.put, List.setIfInBounds_toArray, List.set_cons_zero, List.set_cons_succ]
  refine wpAnyH_take (i := 2) (oi := ⟨some 7, _, _, _, _, _⟩) (v := ?_) rfl (by kernel_rfl) (by kernel_rfl) (by kernel_rfl) (fun _ _ _ h => h) (Or.inl ⟨by kernel_rfl, ?_⟩) hHeld ?_
  rotate_left
  focus (intro W hS; have c0_0 := (hS.1).at_ (j := 0) rfl; have c1_0 := (hS.2.1).at_ (j := 0) rfl; clear hS; first | (go_simp; done) | (go_simp; with_reducible rfl))
  try simp only [Act.put, List.setIfInBounds_toArray, List.set_cons_zero, List.set_cons_succ]
  refine wpAnyH_ready (rs := [3]) (by kernel_rfl) (by simp) ?_
  refine AllReadyH.cons (o := ⟨some 8, _, _, _, _, _⟩) rfl (fun K hK => ?_) AllReadyH.nil
  go_simp
  refine Calls.mono (CQ.out _) ?_
  rintro e x1 ⟨rfl, hb1⟩
  refine hK.out _ _ ⟨hHeld.1.new hb1, hHeld.2.1.new hb1, below_trans hHeld.2.2 hb1 (Nat.le_refl _)⟩ (fun hHeld' => ?_)
  clear hK K hHeld hb1
  have hHeld := hHeld'
  clear hHeld'
  try simp only [Act.put, List.setIfInBounds_toArray, List.set_cons_zero, List.set_cons_succ]
  refine wpAnyH_ready (rs := [4]) (by kernel_rfl) (by simp) ?_
  refine AllReadyH.cons (o := ⟨some 9, _, _, _, _, _⟩) rfl (fun K hK => ?_) AllReadyH.nil
  go_simp
  refine Calls.mono (CC.out _ (HR.out.new hHeld.2.2)) ?_
  rintro e x2 ⟨A2, c2, lo2, hi2, rfl, _, _, hb1⟩
  refine hK.out _ _ ⟨hHeld.1.new hb1, hHeld.2.1.new hb1, below_trans hHeld.2.2 hb1 (Nat.le_refl _)⟩ (fun hHeld' => ?_)
  clear hK K hHeld hb1
  have hHeld := hHeld'
  clear hHeld'
  try simp only [Act.put, List.setIfInBounds_toArray, List.set_cons_zero, List.set_cons_succ]
  refine wpAnyH_take (i := 5) (oi := ⟨some 10, _, _, _, _, _⟩) (v := ?_) rfl (by kernel_rfl) (by kernel_rfl) (by kernel_rfl) (fun _ _ _ h => h) (Or.inl ⟨by kernel_rfl, ?_⟩) hHeld ?_
  rotate_left
  focus (intro W hS; have c0_0 := (hS.1).at_ (j := 0) rfl; have c1_0 := (hS.2.1).at_ (j := 0) rfl; clear hS; first | (go_simp; done) | (go_simp; with_reducible rfl))
  try simp only [Act.put, List.setIfInBounds_toArray, List.set_cons_zero, List.set_cons_succ]
  refine wpAnyH_take (i := 6) (oi := ⟨some 11, _, _, _, _, _⟩) (v := ?_) rfl (by kernel_rfl) (by kernel_rfl) (by kernel_rfl) (fun _ _ _ h => h) (Or.inl ⟨by kernel_rfl, ?_⟩) hHeld ?_
  rotate_left
  focus (intro W hS; have c0_0 := (hS.1).at_ (j := 0) rfl; have c1_0 := (hS.2.1).at_ (j := 0) rfl; clear hS; first | (go_simp; done) | (go_simp; with_reducible rfl))
  try simp only [Act.put, List.setIfInBounds_toArray, List.set_cons_zero, List.set_cons_succ]
  refine wpAnyH_take (i := 7) (oi := ⟨some 4, _, _, _, _, _⟩) (v := ?_) rfl (by kernel_rfl) (by kernel_rfl) (by kernel_rfl) (fun _ _ _ h => h) (Or.inl ⟨by kernel_rfl, ?_⟩) hHeld ?_
  rotate_left
  focus (intro W hS; have c0_0 := (hS.1).at_ (j := 0) rfl; have c1_0 := (hS.2.1).at_ (j := 0) rfl; clear hS; first | (go_simp; done) | (go_simp; with_reducible rfl))
  try simp only [Act.put, List.setIfInBounds_toArray, List.set_cons_zero, List.set_cons_succ]
  refine wpAnyH_done (by kernel_rfl) ?_ _
  go_wp2_with fail
  go_ret
  exact ⟨by rw [HD.out]; rfl, hHeld.2.2⟩
set_option maxHeartbeats 8000000 in
theorem impl_LoopsFrom (l : List TRule) (A : Option Addr) (n c lo hi : Nat) (o : Int) (w : World) (h0 : n ≤ 1048576) (hr : Rd w lo hi 8 A n (cRule l)) (b0 : Hid (cRuleOk l)) (w1 : (Lit.int .i64 o).wf = true) :
    Calls Try.prog 52 #[.slice A n c, .int .i64 o] w (Makes 3 1 (mLoops l o).length (i64s (mLoops l o)) w) := by
  have hmf : ∀ (fn : Fn) (first cap : Array Value) (w : World), (Instr.makeFunc fn first cap).run Try.prog w = .ok (.func fn first cap) w := fun _ _ _ _ => rfl
  have HC := numbers_LF (fun z => isLoop l (rqTo o z)) #[.pointer (some ⟨w.heap.size, 0, none⟩), .pointer (some ⟨w.heap.size + 1, 0, none⟩)] 0 40 ((w.alloc (.cells #[.slice A n c] 55)).alloc (.cells #[.int .i64 o] 3)) (by decide) (by decide) (by decide)
    (clo_LF l A n c lo hi o w.heap.size (w.heap.size + 1) ((w.alloc (.cells #[.slice A n c] 55)).alloc (.cells #[.int .i64 o] 3)) h0 ((hr.alloc _).alloc _) b0 w1 ((box_new _ _ _).alloc_ _) (by simpa using box_new (w.alloc (.cells #[.slice A n c] 55)) 3 #[.int .i64 o]))
  have HC2 := Lib.hid (show Calls Try.prog 146 #[.int .i64 0, .int .i64 39, .func (.func 162) #[] #[.pointer (some ⟨w.heap.size, 0, none⟩), .pointer (some ⟨w.heap.size + 1, 0, none⟩)]] ((w.alloc (.cells #[.slice A n c] 55)).alloc (.cells #[.int .i64 o] 3)) (Makes 3 1 (mLoops l o).length (i64s (mLoops l o)) _) from HC)
  have HB0 := Lib.hid (show Below w.heap.size w ((w.alloc (.cells #[.slice A n c] 55)).alloc (.cells #[.int .i64 o] 3)) from ((Below.refl _ _).alloc (Nat.le_refl _) _).alloc (by simp) _)
  clear HC hr b0 w1
  generalize mLoops l o = L at HC2 ⊢
  generalize L.length = m at HC2 ⊢
  go_enter Try.func52, Try.ntmps52
  go_wp2_with fail
  refine HC2.out.mono ?_
  rintro e u1 ⟨A', c', rfl, hf, hb1⟩
  have HB1 := Lib.hid (below_trans HB0.out hb1 (by simp <;> omega))
  have HF := Lib.hid (hf.mono (show w.heap.size ≤ _ from HB0.out.size) (Nat.le_refl _))
  clear hb1 hf
  go_wp2_with fail
  go_ret
  exact ⟨_, _, rfl, HF.out, HB1.out⟩
end Go.Proofs.Ytfceddgacefejaa
