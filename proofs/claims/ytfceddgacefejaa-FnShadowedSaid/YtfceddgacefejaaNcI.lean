/- NeverChosen of the program. -/
import Derived.Test.YtfceddgacefejaaNcS
import Derived.Test.YtfceddgacefejaaBest
import Derived.Test.YtfceddgacefejaaReg
import Derived.Deep.LoopGhost
import Derived.Deep.RegionHeld3
import Derived.Handy
namespace Go.Proofs.Ytfceddgacefejaa
open Go Go.ChangeShapes Go.WideShapes Go.ChangeAt Go.RowKit Go.Lib
set_option linter.unusedVariables false
set_option linter.unusedSimpArgs false
set_option maxRecDepth 100000
set_option maxHeartbeats 8000000 in
theorem numbers_NC (p : Int → Bool) (lb : Array Value) (low : Int) (cnt : Nat) (w : World) (hl0 : 0 ≤ low) (hl1 : low ≤ 1000) (hc : cnt ≤ 1048576) (hp : PredB Try.prog 147 lb (fun x : Int => .int .i64 x) p (rangeI low cnt) w) :
    Calls Try.prog 146 #[.int .i64 low, .int .i64 (low + cnt - 1), .func (.func 147) #[] lb] w (Makes 3 1 ((rangeI low cnt).filter p).length (i64s ((rangeI low cnt).filter p)) w) := by
  have HP := Lib.hid hp
  clear hp
  have HRL := Lib.hid (rangeI_len low cnt)
  have HRG := Lib.hid (fun (k : Nat) (h : k < cnt) => rangeI_get low h)
  generalize rangeI low cnt = L at HP HRL HRG ⊢
  go_enter Try.func146, Try.ntmps146
  go_wp2_with fail
  go_loopw [7, 8] (fun v i wr => ∃ k : Nat, k ≤ cnt ∧ i = .int .i64 (low + (k : Int)) ∧ wr.ownsRow w.heap.size 3 1 v ((L.take k).filter p).length (i64s ((L.take k).filter p)) ∧ Below w.heap.size w wr) (fun _ i _ => (low + cnt - intOf i).toNat)
  case atStart => exact ⟨0, Nat.zero_le _, by (congr 1; simp), World.ownsRow_lit w #[] 0 (Nat.le_refl _) (by unfold maxLen; omega) rfl, (Below.refl _ _).alloc (Nat.le_refl _) _⟩
  case round =>
    obtain ⟨k, hk, rfl, hown, hb⟩ := hrel
    have HB := Lib.hid hb
    have HO := Lib.hid hown
    have HS := Lib.hid hb.size
    clear hown hb
    by_cases hlt : k < cnt
    · have HE := Lib.hid (filt_snoc (p := p) (HRG.out k hlt))
      have HN := Lib.hid (Nat.le_trans (List.length_filter_le p (L.take k)) (List.length_take_le _ _))
      have HC := HP.out wr (low + (k : Int)) (mem_of_get (HRG.out k hlt)) HB.out
      have hle : low + (k : Int) ≤ low + (cnt : Int) - 1 := by omega
      have HQ := HE
      cases hq : p (low + (k : Int))
      · rw [hq] at HC
        replace HC := Lib.hid HC
        have H2 := Lib.hid (by have := HE.out; rwa [if_neg (by rw [hq]; decide)] at this)
        clear hq HE HQ
        go_wp2_with (go_at_call 147; refine Calls.mono HC.out ?_; rintro e w1 ⟨rfl, hb1⟩; (have HB1 := Lib.hid (below_trans HB.out hb1 (Nat.le_refl _))); (have HO1 := Lib.hid (own_newer HO.out hb1)); clear hb1)
        go_roundw
        case rel => exact ⟨k + 1, by omega, by (congr 1; omega), by rw [H2.out]; exact HO1.out, HB1.out⟩
        case measure => simp [intOf]; omega
      · rw [hq] at HC
        replace HC := Lib.hid HC
        have H2 := Lib.hid (by have := HE.out; rwa [if_pos hq] at this)
        clear hq HE HQ
        go_wp2_with (first | (go_at_call 147; refine Calls.mono HC.out ?_; rintro e w1 ⟨rfl, hb1⟩; (have HB1 := Lib.hid (below_trans HB.out hb1 (Nat.le_refl _))); (have HO1 := Lib.hid (own_newer HO.out hb1)); (have HS1 := Lib.hid HB1.out.size); clear hb1) | (at_builtin; refine wp_app_lit rfl _ _ _ rfl w.heap.size 3 (.int .i64 0) 1 8 Try.underlying60 info_intN rfl (by decide) _ _ _ rfl HO1.out #[.int .i64 (low + (k : Int))] 1 1 _ rfl (by simp) rfl (one_intN _) (by have := HN.out; unfold maxLen; omega) (by have := HN.out; omega) (by have := HS1.out; omega) ?_; intro v1 w2 ho1 hb1))
        have HO2 := Lib.hid (show w2.ownsRow w.heap.size 3 1 v1 ((L.take (k + 1)).filter p).length (i64s ((L.take (k + 1)).filter p)) by
          rw [H2.out]
          simpa using ho1)
        have HB2 := Lib.hid (HB1.out.trans hb1)
        clear ho1 hb1
        go_wp2_with fail
        go_roundw
        case rel => exact ⟨k + 1, by omega, by (congr 1; omega), HO2.out, HB2.out⟩
        case measure => simp [intOf]; omega
    · obtain rfl : k = cnt := by omega
      have hle : low + (k : Int) - 1 < low + (k : Int) := by omega
      have HO2 := HO.out
      rw [List.take_of_length_le (by rw [HRL.out]; omega)] at HO2
      replace HO2 := Lib.hid HO2
      go_wp2_with fail
      go_ret
      exact makes_of_own HO2.out HB.out
theorem impl_requestTo (o z : Int) (w : World) (h0 : 0 ≤ z) (h1 : z ≤ 1000) : Calls Try.prog 145 #[.int .i64 o, .int .i64 z] w (Says (.agg #[.int .i64 o, .int .i64 (z % 10), .int .i64 (1 + z / 10)]) w) := by
  have e1 : Int.tmod z 10 = z % 10 := Int.tmod_eq_emod_of_nonneg h0
  have e2 : Int.tdiv z 10 = z / 10 := Int.tdiv_eq_ediv_of_nonneg h0
  have hw : IntKind.i64.wrap (1 + z / 10) = 1 + z / 10 := IntWalk.i64_in _ (by omega)
  go_enter Try.func145, Try.ntmps145
  go_wp2_with fail
  exact bodyPost_ret (v := .agg #[.int .i64 o, .int .i64 (z % 10), .int .i64 (1 + z / 10)]) (by simp [results, Try.results145, go_sem]) rfl ⟨rfl, by repeat (first | exact Below.refl _ _ | (refine Below.alloc ?_ (by first | omega | (simp; done) | (simp <;> omega)) _) | (refine Below.setCell ?_ (by first | omega | (simp; done) | (simp <;> omega)) _))⟩
theorem nc_step {l : List TRule} {Q : List Int} {X : Int → Prop} {o m j : Nat} (h : ∀ z : Int, 0 ≤ z → (z ∈ Q ↔ X z ∨ ∃ b, b < m ∧ mDecide l (oReq o b) = z)) (hd : (j : Int) = mDecide l (oReq o m)) :
    ∀ z : Int, 0 ≤ z → (z ∈ Q ++ [(j : Int)] ↔ X z ∨ ∃ b, b < m + 1 ∧ mDecide l (oReq o b) = z) := by
  intro z hz
  rw [List.mem_append, h z hz, List.mem_singleton]
  constructor
  · rintro ((hx | ⟨b, hb, e⟩) | rfl)
    · exact .inl hx
    · exact .inr ⟨b, by omega, e⟩
    · exact .inr ⟨m, by omega, hd.symm⟩
  · rintro (hx | ⟨b, hb, e⟩)
    · exact .inl (.inl hx)
    · by_cases hbm : b = m
      · subst hbm; exact .inr (by rw [← e, hd])
      · exact .inl (.inr ⟨b, by omega, e⟩)
theorem nc_stay {l : List TRule} {Q : List Int} {X : Int → Prop} {o m : Nat} {d : Int} (h : ∀ z : Int, 0 ≤ z → (z ∈ Q ↔ X z ∨ ∃ b, b < m ∧ mDecide l (oReq o b) = z)) (hd : d = mDecide l (oReq o m)) (h0 : ¬ 0 ≤ d) :
    ∀ z : Int, 0 ≤ z → (z ∈ Q ↔ X z ∨ ∃ b, b < m + 1 ∧ mDecide l (oReq o b) = z) := by
  intro z hz
  rw [h z hz]
  constructor
  · rintro (hx | ⟨b, hb, e⟩)
    · exact .inl hx
    · exact .inr ⟨b, by omega, e⟩
  · rintro (hx | ⟨b, hb, e⟩)
    · exact .inl hx
    · by_cases hbm : b = m
      · subst hbm; omega
      · exact .inr ⟨b, by omega, e⟩
def ncP (l : List TRule) (P : List Int) (i : Int) : Bool := (match l[i.toNat]? with | some r => mIsRule r | none => false) && !(P.any fun z => z == i)
theorem nc_out {l : List TRule} {Q : List Int} {o : Nat} (ho : 1 ≤ o) (h : ∀ z : Int, 0 ≤ z → (z ∈ Q ↔ (∃ a b, 1 ≤ a ∧ a < o ∧ b < 40 ∧ mDecide l (oReq a b) = z) ∨ ∃ b, b < 40 ∧ mDecide l (oReq o b) = z)) :
    ∀ z : Int, 0 ≤ z → (z ∈ Q ↔ ∃ a b, 1 ≤ a ∧ a < o + 1 ∧ b < 40 ∧ mDecide l (oReq a b) = z) := by
  intro z hz
  rw [h z hz]
  constructor
  · rintro (⟨a, b, h1, h2, h3, h4⟩ | ⟨b, h3, h4⟩)
    · exact ⟨a, b, h1, by omega, h3, h4⟩
    · exact ⟨o, b, ho, by omega, h3, h4⟩
  · rintro ⟨a, b, h1, h2, h3, h4⟩
    by_cases hao : a = o
    · subst hao; exact .inr ⟨b, h3, h4⟩
    · exact .inl ⟨a, b, h1, by omega, h3, h4⟩
theorem nc_end {l : List TRule} {P : List Int} (h : ∀ z : Int, 0 ≤ z → (z ∈ P ↔ ∃ a b, 1 ≤ a ∧ a < 10 ∧ b < 40 ∧ mDecide l (oReq a b) = z)) : mNC l = (rangeI 0 l.length).filter (ncP l P) := by
  unfold mNC
  refine List.filter_congr fun i hi => ?_
  have hi0 : 0 ≤ i := by obtain ⟨k, hk, rfl⟩ := rangeI_mem hi; omega
  have e : chosen l i = P.any fun z => z == i := by
    rw [Bool.eq_iff_iff, chosen_iff l i hi0, List.any_eq_true]
    constructor
    · rintro ⟨a, b, h1, h2, h3, h4⟩
      exact ⟨i, (h i hi0).2 ⟨a, b, h1, by omega, h3, h4⟩, by simp⟩
    · rintro ⟨z, hz, e⟩
      have e2 : z = i := by simpa using e
      rw [e2] at hz
      obtain ⟨a, b, h1, h2, h3, h4⟩ := (h i hi0).1 hz
      exact ⟨a, b, h1, by omega, h3, h4⟩
  unfold ncP
  rw [e]
  cases l[i.toNat]? <;> rfl
set_option maxHeartbeats 8000000 in
theorem clo_NC (l : List TRule) (A : Option Addr) (n c lo hi : Nat) (P : List Int) (B BR B3 : Nat) (w0 : World) (hl : l.length = n) (hr : Rd w0 lo hi 8 A n (cRule l)) (h1 : BoxAt w0 B 55 #[.slice A n c]) (h2 : BoxAt w0 B3 172 #[.slice (some ⟨BR, 0, none⟩) n n]) (h3 : w0.rowIs BR 4 n (fun j => .bool (P.any fun z => z == (j : Int)))) :
    PredB Try.prog 147 #[.pointer (some ⟨B, 0, none⟩), .pointer (some ⟨B3, 0, none⟩)] (fun x : Int => .int .i64 x) (ncP l P) (rangeI 0 n) w0 := fun w z hz hb => by
  obtain ⟨k, hk, rfl⟩ := rangeI_mem hz
  clear hz
  rw [Int.zero_add]
  obtain ⟨b, off, x, rfl, _, _, hx, hc⟩ := rd_elem TRule.len (hr.new hb) hl hk
  have c0 : w.cell? ⟨b, off + k * 8, none⟩ = some (.int .i64 x.f0) := hc 0 _ rfl
  have c1 : w.cell? ⟨b, off + k * 8 + 1, none⟩ = some (.int .i64 x.f1) := hc 1 _ rfl
  have c2 : w.cell? ⟨b, off + k * 8 + 2, none⟩ = some (.int .i64 x.f2) := hc 2 _ rfl
  have c3 : w.cell? ⟨b, off + k * 8 + 3, none⟩ = some (.int .i64 x.f3) := hc 3 _ rfl
  have c4 : w.cell? ⟨b, off + k * 8 + 4, none⟩ = some (.int .i64 x.f4) := hc 4 _ rfl
  have c5 : w.cell? ⟨b, off + k * 8 + 5, none⟩ = some (.int .i64 x.f5) := hc 5 _ rfl
  have c6 : w.cell? ⟨b, off + k * 8 + 6, none⟩ = some (.int .i64 x.f6) := hc 6 _ rfl
  have c7 : w.cell? ⟨b, off + k * 8 + 7, none⟩ = some (.int .i64 x.f7) := hc 7 _ rfl
  have c8 := (h3.of_block (hb.block _ h3.lt)).cell hk
  have J1 := h1.new hb
  have J2 := h2.new hb
  have hj1 := J1.lt
  have hj2 := J2.lt
  have C0 := fun W => impl_IsRule x W
  have hp : (ncP l P) (k : Int) = (mIsRule x && !(P.any fun z => z == (k : Int))) := by simp [ncP, hx]
  rw [hp]
  clear hp hx hr h1 h2 h3 hb hc
  generalize (P.any fun z => z == (k : Int)) = ch at c8 ⊢
  change Calls Try.prog _ #[.int .i64 k, .pointer (some ⟨B, 0, none⟩), .pointer (some ⟨B3, 0, none⟩)] _ (Says (.bool (mIsRule x && !ch)) w)
  generalize mIsRule x = r at C0 ⊢
  replace C0 := Lib.hid C0
  have q0 := J1.at_ (j := 0) rfl
  have q1 := J2.at_ (j := 0) rfl
  cases r
  all_goals
    go_enter Try.func147, Try.ntmps147
    go_wp2_with fail
    refine Calls.mono (C0.out _) ?_
    rintro e x1 ⟨rfl, hb1⟩
    have d1 := cell_nw hb1 q1
    have d8 := cell_nw hb1 c8
    go_wp2_with fail
    go_ret
    exact ⟨rfl, hb1⟩
/-- The memory of the program's loops: the list's box, the row of what is chosen (those of P), its box. -/
def NcW (A : Option Addr) (n c : Nat) (P : List Int) (w wr : World) : Prop :=
  BoxAt wr w.heap.size 55 #[.slice A n c] ∧ BoxAt wr (w.heap.size + 2) 172 #[.slice (some ⟨w.heap.size + 1, 0, none⟩) n n] ∧ wr.rowIs (w.heap.size + 1) 4 n (fun j => .bool (P.any fun z => z == (j : Int))) ∧ Below w.heap.size w wr
theorem NcW.new {A : Option Addr} {n c : Nat} {P : List Int} {w wr W : World} (h : NcW A n c P w wr) (hb : Below wr.heap.size wr W) : NcW A n c P w W :=
  ⟨h.1.new hb, h.2.1.new hb, h.2.2.1.of_block (hb.block _ h.2.2.1.lt), below_trans h.2.2.2 hb (by have := h.1.lt; omega)⟩
theorem NcW.put {A : Option Addr} {n c : Nat} {P : List Int} {w wr : World} (h : NcW A n c P w wr) (j : Nat) : NcW A n c (P ++ [(j : Int)]) w (wr.setCell ⟨w.heap.size + 1, j, none⟩ (.bool true)) := by
  refine ⟨(Below.heap_setCell wr _ _ _ (by simp)).trans h.1, (Below.heap_setCell wr _ _ _ (by simp)).trans h.2.1, ?_, h.2.2.2.setCell (by simp) _⟩
  have e : (fun k => if k = j then Value.bool true else Value.bool (P.any fun z => z == (k : Int))) = fun k : Nat => Value.bool ((P ++ [(j : Int)]).any fun z => z == (k : Int)) := by
    funext k
    by_cases hk : k = j
    · subst hk; simp
    · have : ¬ ((j : Int) = (k : Int)) := by omega
      simp [hk, this]
  have r := h.2.2.1.set j (.bool true)
  rwa [e] at r
theorem mDecide_bd (l : List TRule) (q : TRequest) : mDecide l q < l.length := (best_bd (p := fun r => mApplies r q) (lt := mIsBefore) (l := l) l.length).2
set_option maxHeartbeats 16000000 in
theorem impl_NeverChosen (l : List TRule) (A : Option Addr) (n c lo hi : Nat) (w : World) (hn : n ≤ 1048576) (hr : Rd w lo hi 8 A n (cRule l)) (H : Hid (cRuleOk l)) :
    Calls Try.prog 40 #[.slice A n c] w (Makes 3 1 (mNC l).length (i64s (mNC l)) w) := by
  have hmf : ∀ (fn : Fn) (first cap : Array Value) (w : World), (Instr.makeFunc fn first cap).run Try.prog w = .ok (.func fn first cap) w := fun _ _ _ _ => rfl
  have hmk : ∀ W, (Instr.makeSlice 172 (.int .i64 n) (.int .i64 n)).run Try.prog W = .ok (.slice (some ⟨W.heap.size, 0, none⟩) n n) (W.alloc (.cells (madeCells #[.bool false] n) 4)) := fun W => run_make_row' (P := Try.prog) 172 4 (.bool false) 1 Try.underlying172 (by kernel_rfl) rfl .i64 .i64 n (by omega) (by omega) W
  have HL := Lib.hid (rd_len TRule.len hr (by decide))
  have HR := Lib.hid hr
  have CQ := Lib.hid (fun (o z : Int) (W : World) (h0 : 0 ≤ z) (h1 : z ≤ 1000) => impl_requestTo o z W h0 h1)
  have CD := Lib.hid (fun (o m : Nat) (W : World) (q : Rd W lo hi 8 A n (cRule l)) => impl_DecideRule l A n c lo hi (oReq o m) W hn q H)
  have HN0 := Lib.hid (show NcW A n c [] w (((w.alloc (.cells #[.slice A n c] 55)).alloc (.cells (madeCells #[.bool false] n) 4)).alloc (.cells #[.slice (some ⟨w.heap.size + 1, 0, none⟩) n n] 172)) from ⟨((box_new w _ _).alloc_ _).alloc_ _, by simpa using box_new ((w.alloc (.cells #[.slice A n c] 55)).alloc (.cells (madeCells #[.bool false] n) 4)) 172 #[.slice (some ⟨w.heap.size + 1, 0, none⟩) n n], by
    have r := World.rowIs_made (w.alloc (.cells #[.slice A n c] 55)) (.bool false) n 4
    rw [World.size_alloc] at r
    have r2 := r.of_block (w' := (((w.alloc (.cells #[.slice A n c] 55)).alloc (.cells (madeCells #[.bool false] n) 4)).alloc (.cells #[.slice (some ⟨w.heap.size + 1, 0, none⟩) n n] 172))) (Below.heap_alloc _ _ _ (by simp))
    simpa using r2, (((Below.refl _ _).alloc (Nat.le_refl _) _).alloc (by simp) _).alloc (by simp; omega) _⟩)
  clear hr
  go_enter Try.func40, Try.ntmps40
  go_wp2_with fail
  go_loopg [4] 9 (fun gg i wr => ∃ (o : Nat) (P : List Int), 1 ≤ o ∧ o ≤ 10 ∧ 10 - o ≤ gg ∧ i = .int .i64 o ∧ Hid (NcW A n c P w wr) ∧ Hid (∀ z : Int, 0 ≤ z → (z ∈ P ↔ ∃ a b, 1 ≤ a ∧ a < o ∧ b < 40 ∧ mDecide l (oReq a b) = z)))
  case atStart => exact ⟨1, [], Nat.le_refl _, by omega, by omega, rfl, HN0, Lib.hid (fun z _ => ⟨(fun h => by cases h), (fun ⟨a, b, h1, h2, _⟩ => absurd h1 (by omega))⟩)⟩
  case round =>
    obtain ⟨o, P, ho1, ho2, hgo, rfl, HN, HP⟩ := hrel
    by_cases hlt : o < 10
    · have hle9 : (o : Int) ≤ 9 := by omega
      go_wp2_with fail
      go_loopg [14] 40 (fun gg i wr => ∃ (m : Nat) (P : List Int), m ≤ 40 ∧ 40 - m ≤ gg ∧ i = .int .i64 m ∧ Hid (NcW A n c P w wr) ∧ Hid (∀ z : Int, 0 ≤ z → (z ∈ P ↔ (∃ a b, 1 ≤ a ∧ a < o ∧ b < 40 ∧ mDecide l (oReq a b) = z) ∨ ∃ b, b < m ∧ mDecide l (oReq o b) = z)))
      case atStart => exact ⟨0, P, Nat.zero_le _, by omega, rfl, HN, Lib.hid (fun z hz => by rw [HP.out z hz]; simp)⟩
      case round =>
        obtain ⟨m, Q, hm, hgm, rfl, HNi, HQ⟩ := hrel
        by_cases hlm : m < 40
        · obtain ⟨N1, N2, N3, N4⟩ := HNi.out
          have HRr := Lib.hid (HR.out.new N4)
          go_wp2_with fail
          refine wp_region_held_drew (S := fun w' => BoxAt w' w.heap.size 55 #[.slice A n c] ∧ Below wr.heap.size wr w') (by kernel_rfl) ?_ (fun hHeld => ?_)
          · exact ⟨N1.drw, (Below.refl _ _).drew⟩
          refine wpAnyH_take (i := 0) (oi := ⟨some 17, _, _, _, _, _⟩) (v := ?_) rfl (by kernel_rfl) (by kernel_rfl) (by kernel_rfl) (fun _ _ _ h => h) (Or.inl ⟨by kernel_rfl, ?_⟩) hHeld ?_
          rotate_left
          focus (intro W hS; have c0_0 := (hS.1).at_ (j := 0) rfl; clear hS; first | (go_simp; done) | (go_simp; with_reducible rfl))
          try simp only [Act.put, List.setIfInBounds_toArray, List.set_cons_zero, List.set_cons_succ]
          refine wpAnyH_take (i := 1) (oi := ⟨some 18, _, _, _, _, _⟩) (v := ?_) rfl (by kernel_rfl) (by kernel_rfl) (by kernel_rfl) (fun _ _ _ h => h) (Or.inl ⟨by kernel_rfl, ?_⟩) hHeld ?_
          rotate_left
          focus (intro W hS; have c0_0 := (hS.1).at_ (j := 0) rfl; clear hS; first | (go_simp; done) | (go_simp; with_reducible rfl))
          try simp only [Act.put, List.setIfInBounds_toArray, List.set_cons_zero, List.set_cons_succ]
          refine wpAnyH_take (i := 2) (oi := ⟨some 19, _, _, _, _, _⟩) (v := ?_) rfl (by kernel_rfl) (by kernel_rfl) (by kernel_rfl) (fun _ _ _ h => h) (Or.inl ⟨by kernel_rfl, ?_⟩) hHeld ?_
          rotate_left
          focus (intro W hS; have c0_0 := (hS.1).at_ (j := 0) rfl; clear hS; first | (go_simp; done) | (go_simp; with_reducible rfl))
          try simp only [Act.put, List.setIfInBounds_toArray, List.set_cons_zero, List.set_cons_succ]
          refine wpAnyH_ready (rs := [3]) (by kernel_rfl) (by simp) ?_
          refine AllReadyH.cons (o := ⟨some 20, _, _, _, _, _⟩) rfl (fun K hK => ?_) AllReadyH.nil
          go_simp
          refine Calls.mono (CQ.out (o : Int) (m : Int) _ (by omega) (by omega)) ?_
          rintro e x1 ⟨rfl, hb1⟩
          refine hK.out _ _ ⟨hHeld.1.new hb1, below_trans hHeld.2 hb1 (Nat.le_refl _)⟩ (fun hHeld' => ?_)
          clear hK K hHeld hb1
          have hHeld := hHeld'
          clear hHeld'
          try simp only [Act.put, List.setIfInBounds_toArray, List.set_cons_zero, List.set_cons_succ]
          refine wpAnyH_ready (rs := [4]) (by kernel_rfl) (by simp) ?_
          refine AllReadyH.cons (o := ⟨some 21, _, _, _, _, _⟩) rfl (fun K hK => ?_) AllReadyH.nil
          go_simp
          refine Calls.mono (CD.out o m _ (HRr.out.new hHeld.2)) ?_
          rintro e x2 ⟨rfl, hb1⟩
          refine hK.out _ _ ⟨hHeld.1.new hb1, below_trans hHeld.2 hb1 (Nat.le_refl _)⟩ (fun hHeld' => ?_)
          clear hK K hHeld hb1
          have hHeld := hHeld'
          clear hHeld'
          try simp only [Act.put, List.setIfInBounds_toArray, List.set_cons_zero, List.set_cons_succ]
          refine wpAnyH_take (i := 5) (oi := ⟨some 6, _, _, _, _, _⟩) (v := ?_) rfl (by kernel_rfl) (by kernel_rfl) (by kernel_rfl) (fun _ _ _ h => h) (Or.inl ⟨by kernel_rfl, ?_⟩) hHeld ?_
          rotate_left
          focus (intro W hS; have c0_0 := (hS.1).at_ (j := 0) rfl; clear hS; first | (go_simp; done) | (go_simp; with_reducible rfl))
          try simp only [Act.put, List.setIfInBounds_toArray, List.set_cons_zero, List.set_cons_succ]
          refine wpAnyH_done (by kernel_rfl) ?_ _
          have HN2 := Lib.hid (HNi.out.new hHeld.2)
          clear hHeld N1 N2 N3 N4
          have hdb := mDecide_bd l (oReq o m)
          rw [HL.out] at hdb
          obtain ⟨d, hd⟩ : ∃ d, d = mDecide l (oReq o m) := ⟨_, rfl⟩
          have HD := Lib.hid hd
          rw [← hd] at hdb ⊢
          clear hd
          by_cases h0 : 0 ≤ d
          · obtain ⟨j, rfl⟩ := Int.eq_ofNat_of_zero_le h0
            have hj : j < n := by omega
            have HN3 := Lib.hid (HN2.out.put j)
            have q0 := HN2.out.2.1.at_ (j := 0) rfl
            have q1 := HN2.out.2.2.1.cell hj
            have q2 := HN2.out.2.2.1.frozen j
            go_wp2_with fail
            go_roundg (40 - (m + 1))
            case measure => omega
            case rel => exact ⟨m + 1, Q ++ [(j : Int)], by omega, by omega, by go_num, HN3, Lib.hid (nc_step HQ.out HD.out)⟩
          · go_wp2_with fail
            go_roundg (40 - (m + 1))
            case measure => omega
            case rel => exact ⟨m + 1, Q, by omega, by omega, by go_num, HN2, Lib.hid (nc_stay HQ.out HD.out (by omega))⟩
        · have HP2 := Lib.hid (nc_out ho1 (show ∀ z : Int, 0 ≤ z → (z ∈ Q ↔ (∃ a b, 1 ≤ a ∧ a < o ∧ b < 40 ∧ mDecide l (oReq a b) = z) ∨ ∃ b, b < 40 ∧ mDecide l (oReq o b) = z) by have h := HQ.out; rwa [show m = 40 by omega] at h))
          have hge : ¬ (m : Int) < 40 := by omega
          clear HQ HP
          go_wp2_with fail
          go_roundg (10 - (o + 1))
          case measure => omega
          case rel => exact ⟨o + 1, Q, by omega, by omega, by omega, by go_num, HNi, HP2⟩
    · have hgt : ¬ (o : Int) ≤ 9 := by omega
      obtain ⟨N1, N2, N3, N4⟩ := HN.out
      have q0 := N1.at_ (j := 0) rfl
      have hsz := N4.size
      have HC := numbers_NC _ #[.pointer (some ⟨w.heap.size, 0, none⟩), .pointer (some ⟨w.heap.size + 2, 0, none⟩)] 0 n wr (by decide) (by decide) hn (clo_NC l A n c lo hi P w.heap.size (w.heap.size + 1) (w.heap.size + 2) wr HL.out (HR.out.new N4) N1 N2 N3)
      rw [Int.zero_add] at HC
      have hm := nc_end (show ∀ z : Int, 0 ≤ z → (z ∈ P ↔ ∃ a b, 1 ≤ a ∧ a < 10 ∧ b < 40 ∧ mDecide l (oReq a b) = z) by have h := HP.out; rwa [show o = 10 by omega] at h)
      rw [HL.out] at hm
      rw [← hm] at HC
      have HB0 := Lib.hid N4
      clear N2 N3 N4 hm HP
      have hwr : IntKind.i64.wrap ((n : Int) - 1) = (n : Int) - 1 := IntWalk.i64_in _ (by omega)
      replace HC := Lib.hid HC
      go_wp2_with fail
      refine Calls.mono HC.out ?_
      rintro e w1 ⟨A', c', rfl, hf, hb1⟩
      have HB1 := Lib.hid (below_trans HB0.out hb1 (Nat.le_refl _))
      clear hb1
      go_wp2_with fail
      go_ret
      exact ⟨A', c', rfl, ⟨hf.1, fun h => ⟨own_base (hf.2 h).1 hsz, (hf.2 h).2⟩⟩, HB1.out⟩
end Go.Proofs.Ytfceddgacefejaa
