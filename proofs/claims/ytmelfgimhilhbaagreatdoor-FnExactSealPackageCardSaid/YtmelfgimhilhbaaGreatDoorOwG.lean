/- areOwn at Grant. -/
import Derived.Test.YtmelfgimhilhbaaGreatDoorGrant
import Derived.Test.YtmelfgimhilhbaaGreatDoorFun
import Derived.Deep.LoopGhost
import Derived.Deep.RegionHeld3
namespace Go.Proofs.YtmelfgimhilhbaaGreatDoor
open Go Go.ChangeShapes Go.WideShapes Go.ChangeAt Go.RowKit Go.Lib
set_option linter.unusedVariables false
set_option linter.unusedSimpArgs false
set_option maxRecDepth 100000
theorem rd_tailOwG {w : World} {lo hi n b off : Nat} {x : TGrant} {l : List TGrant} (h : Rd w lo hi 7 (some ⟨b, off, none⟩) (n + 1) (cGrant (x :: l))) :
    Rd w lo hi 7 (some ⟨b, off + 7, none⟩) n (cGrant l) := by
  have hc : cGrant (x :: l) = TGrant.cells x ++ cGrant l := rfl
  refine ⟨?_, fun hn => ?_⟩
  · have := h.1
    rw [hc, List.length_append, TGrant.len] at this
    omega
  · obtain ⟨b', off', e, h1, h2, h3⟩ := h.2 (by omega)
    cases e
    refine ⟨b, off + 7, rfl, h1, h2, fun j u hu => ?_⟩
    rw [Nat.add_assoc]
    refine h3 (7 + j) u ?_
    rw [hc, List.getElem?_append_right (by rw [TGrant.len]; omega), TGrant.len]
    simpa using hu

set_option maxHeartbeats 4000000 in
theorem any_OwG (p : TGrant → Bool) (lb : Array Value) (l : List TGrant) (A : Option Addr) (n c lo hi : Nat) (w : World) (hn : n ≤ 17592186044416) (hcap : n ≤ c)
    (hr : Rd w lo hi 7 A n (cGrant l)) (hp : PredB Tryz.prog 158 lb (fun x : TGrant => .agg #[.int .i64 x.f0, .int .i64 x.f1, .int .i64 x.f2, .int .i64 x.f3, .int .i64 x.f4, .int .i64 x.f5, .bool x.f6]) p l w) :
    Calls Tryz.prog 152 #[.slice A n c, .func (.func 158) #[] lb] w (Says (.bool (l.any p)) w) := by
  have HR := Lib.hid hr
  have HP := Lib.hid hp
  clear hr hp
  go_enter Tryz.func152, Tryz.ntmps152
  go_wp2_with fail
  go_loopg [0] n (fun gg v wr => ∃ (A' : Option Addr) (n' c' : Nat) (l' : List TGrant), v = .slice A' n' c' ∧ n' ≤ gg ∧ n' ≤ n ∧ n' ≤ c' ∧ Hid (Rd wr lo hi 7 A' n' (cGrant l')) ∧ Hid (∀ x, x ∈ l' → x ∈ l) ∧ Hid (l.any p = l'.any p) ∧ Hid (Below w.heap.size w wr))
  case atStart => exact ⟨_, _, _, l, rfl, Nat.le_refl _, Nat.le_refl _, hcap, HR, Lib.hid (fun _ h => h), Lib.hid rfl, Lib.hid (Below.refl _ _)⟩
  case round =>
    obtain ⟨A', n', c', l', rfl, hg, hn', hcc, HR', HM, HA, HB⟩ := hrel
    cases l' with
    | nil =>
      obtain rfl : n' = 0 := by have := HR'.out.1; simp at this; omega
      have HE := Lib.hid (show l.any p = false from HA.out)
      go_wp2_with fail
      go_ret
      exact ⟨by rw [HE.out]; rfl, HB.out⟩
    | cons x t =>
      have HL := Lib.hid (rd_len TGrant.len HR'.out (by decide))
      obtain ⟨m, rfl⟩ : ∃ m, n' = m + 1 := ⟨t.length, by have := HL.out; simp at this; omega⟩
      obtain ⟨b, off, x', rfl, _, _, hz, hc⟩ := rd_elem (k := 0) TGrant.len HR'.out HL.out (by omega)
      obtain rfl : x = x' := by simpa using hz
      have c0 : wr.cell? ⟨b, off, none⟩ = some (.int .i64 x.f0) := by simpa using hc 0 _ rfl
      have c1 : wr.cell? ⟨b, off + 1, none⟩ = some (.int .i64 x.f1) := by simpa using hc 1 _ rfl
      have c2 : wr.cell? ⟨b, off + 2, none⟩ = some (.int .i64 x.f2) := by simpa using hc 2 _ rfl
      have c3 : wr.cell? ⟨b, off + 3, none⟩ = some (.int .i64 x.f3) := by simpa using hc 3 _ rfl
      have c4 : wr.cell? ⟨b, off + 4, none⟩ = some (.int .i64 x.f4) := by simpa using hc 4 _ rfl
      have c5 : wr.cell? ⟨b, off + 5, none⟩ = some (.int .i64 x.f5) := by simpa using hc 5 _ rfl
      have c6 : wr.cell? ⟨b, off + 6, none⟩ = some (.bool x.f6) := by simpa using hc 6 _ rfl
      have HT := Lib.hid (rd_tailOwG HR'.out)
      have hcall := HP.out wr x (HM.out x (by simp)) HB.out
      have HMt := Lib.hid (fun y (h : y ∈ t) => HM.out y (List.mem_cons_of_mem _ h))
      clear hc hz HR' HM
      cases hq : p x with
      | true =>
        rw [hq] at hcall
        have HE := Lib.hid (show l.any p = true by rw [HA.out, List.any_cons, hq]; rfl)
        clear hq HA
        go_wp2_with (go_at_call 158; refine hcall.mono ?_; rintro e w1 ⟨rfl, hb1⟩; have HB1 := Lib.hid hb1; clear hb1)
        go_ret
        exact ⟨by rw [HE.out]; rfl, below_trans HB.out HB1.out (Nat.le_refl _)⟩
      | false =>
        rw [hq] at hcall
        have HE := Lib.hid (show l.any p = t.any p by rw [HA.out, List.any_cons, hq]; rfl)
        clear hq HA
        rcases Nat.eq_zero_or_pos m with rfl | hm
        · obtain rfl : t = [] := by have := HL.out; simpa using this
          go_wp2_with (go_at_call 158; refine hcall.mono ?_; rintro e w1 ⟨rfl, hb1⟩; have HB1 := Lib.hid hb1; clear hb1)
          go_roundg 0
          case measure => omega
          case rel => exact ⟨_, _, _, [], rfl, Nat.le_refl _, by omega, by omega, Lib.hid Rd.empty, HMt, HE, Lib.hid (below_trans HB.out HB1.out (Nat.le_refl _))⟩
        · go_wp2_with (go_at_call 158; refine hcall.mono ?_; rintro e w1 ⟨rfl, hb1⟩; have HB1 := Lib.hid hb1; clear hb1)
          go_roundg m
          case measure => omega
          case rel => exact ⟨_, _, _, t, rfl, by omega, by omega, by omega, Lib.hid (HT.out.new HB1.out), HMt, HE, Lib.hid (below_trans HB.out HB1.out (Nat.le_refl _))⟩

theorem nots_OwG (p : TGrant → Bool) (lb : Array Value) (l : List TGrant) (B : Nat) (w : World) (hq : w.cell? ⟨B, 0, none⟩ = some (.func (.func 122) #[] lb))
    (hp : PredB Tryz.prog 122 lb (fun x : TGrant => .agg #[.int .i64 x.f0, .int .i64 x.f1, .int .i64 x.f2, .int .i64 x.f3, .int .i64 x.f4, .int .i64 x.f5, .bool x.f6]) p l w) : PredB Tryz.prog 158 #[.pointer (some ⟨B, 0, none⟩)] (fun x : TGrant => .agg #[.int .i64 x.f0, .int .i64 x.f1, .int .i64 x.f2, .int .i64 x.f3, .int .i64 x.f4, .int .i64 x.f5, .bool x.f6]) (fun x => !p x) l w := fun W x hx hb => by
  have c0 := cell_nw hb hq
  have HC := Lib.hid (show Calls Tryz.prog 122 (#[.agg #[.int .i64 x.f0, .int .i64 x.f1, .int .i64 x.f2, .int .i64 x.f3, .int .i64 x.f4, .int .i64 x.f5, .bool x.f6]] ++ lb) (W.alloc (.cells #[.int .i64 x.f0, .int .i64 x.f1, .int .i64 x.f2, .int .i64 x.f3, .int .i64 x.f4, .int .i64 x.f5, .bool x.f6] 89)) _ from hp _ x hx (hb.alloc (by have := hb.size; omega) _))
  have m0 : B < W.heap.size := World.block_lt_of_cell? _ _ c0
  have n0 : B ≠ W.heap.size := Nat.ne_of_lt m0
  clear hb hq hp
  change Calls Tryz.prog _ #[.agg #[.int .i64 x.f0, .int .i64 x.f1, .int .i64 x.f2, .int .i64 x.f3, .int .i64 x.f4, .int .i64 x.f5, .bool x.f6], .pointer (some ⟨B, 0, none⟩)] _ (Says (.bool (!p x)) W)
  generalize p x = q at HC ⊢
  cases q
  all_goals
    go_enter Tryz.func158, Tryz.ntmps158
    go_wp2_with (go_at_call 122; refine HC.out.mono ?_; rintro e w1 ⟨rfl, hb1⟩; have HB1 := Lib.hid (below_trans ((Below.refl _ _).alloc (Nat.le_refl _) _) hb1 (by simp)); clear hb1)
    go_ret
    exact ⟨rfl, HB1.out⟩
set_option maxHeartbeats 4000000 in
theorem all_OwG (p : TGrant → Bool) (lb : Array Value) (l : List TGrant) (A : Option Addr) (n c lo hi : Nat) (w : World) (hn : n ≤ 17592186044416) (hcap : n ≤ c)
    (hr : Rd w lo hi 7 A n (cGrant l)) (hp : PredB Tryz.prog 122 lb (fun x : TGrant => .agg #[.int .i64 x.f0, .int .i64 x.f1, .int .i64 x.f2, .int .i64 x.f3, .int .i64 x.f4, .int .i64 x.f5, .bool x.f6]) p l w) :
    Calls Tryz.prog 121 #[.slice A n c, .func (.func 122) #[] lb] w (Says (.bool (l.all p)) w) := by
  have hmf : ∀ (fn : Fn) (first cap : Array Value) (w : World), (Instr.makeFunc fn first cap).run Tryz.prog w = .ok (.func fn first cap) w := fun _ _ _ _ => rfl
  have HC := any_OwG (fun x => !p x) #[.pointer (some ⟨w.heap.size, 0, none⟩)] l A n c lo hi (w.alloc (.cells #[.func (.func 122) #[] lb] 85)) hn hcap (hr.alloc _)
    (nots_OwG p lb l w.heap.size _ (cell_newest (by simp) rfl) (fun W x hx hb => hp W x hx (below_trans ((Below.refl _ _).alloc (Nat.le_refl _) _) hb (by simp))))
  have hE : l.all p = !(l.any fun x => !p x) := by rw [List.all_eq_not_any_not]
  rw [hE]
  clear hr hp hE
  generalize (l.any fun x => !p x) = q at HC ⊢
  have HC := Lib.hid HC
  cases q
  all_goals
    go_enter Tryz.func121, Tryz.ntmps121
    go_wp2_with fail
    refine HC.out.mono ?_
    rintro e w1 ⟨rfl, hb1⟩
    have HB1 := Lib.hid (below_trans ((Below.refl _ _).alloc (Nat.le_refl _) _) hb1 (by simp))
    clear hb1
    go_wp2_with fail
    go_ret
    exact ⟨rfl, HB1.out⟩

theorem impl_extOfGrant (x : TGrant) (w : World) : Calls Tryz.prog 74 #[.agg #[.int .i64 x.f0, .int .i64 x.f1, .int .i64 x.f2, .int .i64 x.f3, .int .i64 x.f4, .int .i64 x.f5, .bool x.f6]] w (Says (.int .i64 x.f0) w) := by
  go_enter Tryz.func74, Tryz.ntmps74
  go_wp2_with fail
  go_ret
  exact ⟨rfl, (Below.refl _ _).alloc (Nat.le_refl _) _⟩
def pPkG (e : Int) (x : TGrant) : Bool := mIsGrant x && x.f0 == e
def mPkG (l : List TGrant) (e : Int) : Bool := decide (l.length ≤ 6) && l.all (pPkG e)

set_option maxHeartbeats 8000000 in
theorem clo_OwG (e : Int) (B1 B2 B3 : Nat) (l : List TGrant) (w : World) (h1 : BoxAt w B1 85 #[.func (.func 73) #[] #[]]) (h2 : BoxAt w B2 120 #[.func (.func 74) #[] #[]]) (h3 : BoxAt w B3 3 #[.int .i64 e]) :
    PredB Tryz.prog 122 #[.pointer (some ⟨B1, 0, none⟩), .pointer (some ⟨B2, 0, none⟩), .pointer (some ⟨B3, 0, none⟩)] (fun x : TGrant => .agg #[.int .i64 x.f0, .int .i64 x.f1, .int .i64 x.f2, .int .i64 x.f3, .int .i64 x.f4, .int .i64 x.f5, .bool x.f6]) (pPkG e) l w := fun W x _ hb => by
  have K1 := (h1.new hb).alloc_ (.cells #[.int .i64 x.f0, .int .i64 x.f1, .int .i64 x.f2, .int .i64 x.f3, .int .i64 x.f4, .int .i64 x.f5, .bool x.f6] 89)
  have K2 := (h2.new hb).alloc_ (.cells #[.int .i64 x.f0, .int .i64 x.f1, .int .i64 x.f2, .int .i64 x.f3, .int .i64 x.f4, .int .i64 x.f5, .bool x.f6] 89)
  have K3 := (h3.new hb).alloc_ (.cells #[.int .i64 x.f0, .int .i64 x.f1, .int .i64 x.f2, .int .i64 x.f3, .int .i64 x.f4, .int .i64 x.f5, .bool x.f6] 89)
  have m1 : B1 < W.heap.size := (h1.new hb).lt
  have m2 : B2 < W.heap.size := (h2.new hb).lt
  have m3 : B3 < W.heap.size := (h3.new hb).lt
  have KX := box_new W 89 #[.int .i64 x.f0, .int .i64 x.f1, .int .i64 x.f2, .int .i64 x.f3, .int .i64 x.f4, .int .i64 x.f5, .bool x.f6]
  have HBx : Below W.heap.size W (W.alloc (.cells #[.int .i64 x.f0, .int .i64 x.f1, .int .i64 x.f2, .int .i64 x.f3, .int .i64 x.f4, .int .i64 x.f5, .bool x.f6] 89)) := (Below.refl _ _).alloc (Nat.le_refl _) _
  have C0 := Lib.hid (fun V => impl_IsGrant x V)
  have C1 := Lib.hid (fun V => impl_extOfGrant x V)
  clear h1 h2 h3 hb
  change Calls Tryz.prog _ #[.agg #[.int .i64 x.f0, .int .i64 x.f1, .int .i64 x.f2, .int .i64 x.f3, .int .i64 x.f4, .int .i64 x.f5, .bool x.f6], .pointer (some ⟨B1, 0, none⟩), .pointer (some ⟨B2, 0, none⟩), .pointer (some ⟨B3, 0, none⟩)] _ (Says (.bool (mIsGrant x && x.f0 == e)) W)
  generalize mIsGrant x = r at C0 ⊢
  go_enter Tryz.func122, Tryz.ntmps122
  go_wp2_with fail
  refine wp_region_held_drew (S := fun w' => BoxAt w' W.heap.size 89 #[.int .i64 x.f0, .int .i64 x.f1, .int .i64 x.f2, .int .i64 x.f3, .int .i64 x.f4, .int .i64 x.f5, .bool x.f6] ∧ BoxAt w' B1 85 #[.func (.func 73) #[] #[]] ∧ BoxAt w' B2 120 #[.func (.func 74) #[] #[]] ∧ BoxAt w' B3 3 #[.int .i64 e] ∧ Below W.heap.size W w') (by kernel_rfl) ?_ (fun hHeld => ?_)
  · exact ⟨KX.drw, K1.drw, K2.drw, K3.drw, HBx.drew⟩
  refine wpAnyH_take (i := 0) (oi := ⟨some 6, _, _, _, _, _⟩) (v := ?_) rfl (by kernel_rfl) (by kernel_rfl) (by kernel_rfl) (fun _ _ _ h => h) (Or.inl ⟨by kernel_rfl, ?_⟩) hHeld ?_
  rotate_left
  focus (intro W hS; have c0_0 := (hS.1).at_ (j := 0) rfl; have c0_1 := (hS.1).at_ (j := 1) rfl; have c0_2 := (hS.1).at_ (j := 2) rfl; have c0_3 := (hS.1).at_ (j := 3) rfl; have c0_4 := (hS.1).at_ (j := 4) rfl; have c0_5 := (hS.1).at_ (j := 5) rfl; have c0_6 := (hS.1).at_ (j := 6) rfl; have c1_0 := (hS.2.1).at_ (j := 0) rfl; have c2_0 := (hS.2.2.1).at_ (j := 0) rfl; have c3_0 := (hS.2.2.2.1).at_ (j := 0) rfl; clear hS; first | (go_simp; done) | (go_simp; with_reducible rfl))
  try simp only [Act.put, List.setIfInBounds_toArray, List.set_cons_zero, List.set_cons_succ]
  refine wpAnyH_take (i := 1) (oi := ⟨some 7, _, _, _, _, _⟩) (v := ?_) rfl (by kernel_rfl) (by kernel_rfl) (by kernel_rfl) (fun _ _ _ h => h) (Or.inl ⟨by kernel_rfl, ?_⟩) hHeld ?_
  rotate_left
  focus (intro W hS; have c0_0 := (hS.1).at_ (j := 0) rfl; have c0_1 := (hS.1).at_ (j := 1) rfl; have c0_2 := (hS.1).at_ (j := 2) rfl; have c0_3 := (hS.1).at_ (j := 3) rfl; have c0_4 := (hS.1).at_ (j := 4) rfl; have c0_5 := (hS.1).at_ (j := 5) rfl; have c0_6 := (hS.1).at_ (j := 6) rfl; have c1_0 := (hS.2.1).at_ (j := 0) rfl; have c2_0 := (hS.2.2.1).at_ (j := 0) rfl; have c3_0 := (hS.2.2.2.1).at_ (j := 0) rfl; clear hS; first | (go_simp; done) | (go_simp; with_reducible rfl))
  try simp only [Act.put, List.setIfInBounds_toArray, List.set_cons_zero, List.set_cons_succ]
  refine wpAnyH_ready (rs := [2]) (by kernel_rfl) (by simp) ?_
  refine AllReadyH.cons (o := ⟨some 8, _, _, _, _, _⟩) rfl (fun K hK => ?_) AllReadyH.nil
  go_simp
  refine Calls.mono (C0.out _) ?_
  rintro e x1 ⟨rfl, hb1⟩
  refine hK.out _ _ ⟨hHeld.1.new hb1, hHeld.2.1.new hb1, hHeld.2.2.1.new hb1, hHeld.2.2.2.1.new hb1, below_trans hHeld.2.2.2.2 hb1 (Nat.le_refl _)⟩ (fun hHeld' => ?_)
  clear hK K hHeld hb1
  have hHeld := hHeld'
  clear hHeld'
  try simp only [Act.put, List.setIfInBounds_toArray, List.set_cons_zero, List.set_cons_succ]
  cases r
  · skip
    refine wpAnyH_take (i := 3) (oi := ⟨some 9, _, _, _, _, _⟩) (v := ?_) rfl (by kernel_rfl) (by kernel_rfl) (by kernel_rfl) (fun _ _ _ h => h) (Or.inl ⟨by kernel_rfl, ?_⟩) hHeld ?_
    rotate_left
    focus (intro W hS; have c0_0 := (hS.1).at_ (j := 0) rfl; have c0_1 := (hS.1).at_ (j := 1) rfl; have c0_2 := (hS.1).at_ (j := 2) rfl; have c0_3 := (hS.1).at_ (j := 3) rfl; have c0_4 := (hS.1).at_ (j := 4) rfl; have c0_5 := (hS.1).at_ (j := 5) rfl; have c0_6 := (hS.1).at_ (j := 6) rfl; have c1_0 := (hS.2.1).at_ (j := 0) rfl; have c2_0 := (hS.2.2.1).at_ (j := 0) rfl; have c3_0 := (hS.2.2.2.1).at_ (j := 0) rfl; clear hS; first | (go_simp; done) | (go_simp; with_reducible rfl))
    try simp only [Act.put, List.setIfInBounds_toArray, List.set_cons_zero, List.set_cons_succ]
    refine wpAnyH_take (i := 4) (oi := ⟨some 10, _, _, _, _, _⟩) (v := undef) rfl (by kernel_rfl) (by kernel_rfl) (by kernel_rfl) (fun _ _ _ h => h) (Or.inr ⟨by kernel_rfl, rfl⟩) hHeld ?_
    try simp only [Act.put, List.setIfInBounds_toArray, List.set_cons_zero, List.set_cons_succ]
    refine wpAnyH_take (i := 5) (oi := ⟨some 11, _, _, _, _, _⟩) (v := undef) rfl (by kernel_rfl) (by kernel_rfl) (by kernel_rfl) (fun _ _ _ h => h) (Or.inr ⟨by kernel_rfl, rfl⟩) hHeld ?_
    try simp only [Act.put, List.setIfInBounds_toArray, List.set_cons_zero, List.set_cons_succ]
    refine wpAnyH_take (i := 7) (oi := ⟨some 13, _, _, _, _, _⟩) (v := undef) rfl (by kernel_rfl) (by kernel_rfl) (by kernel_rfl) (fun _ _ _ h => h) (Or.inr ⟨by kernel_rfl, rfl⟩) hHeld ?_
    try simp only [Act.put, List.setIfInBounds_toArray, List.set_cons_zero, List.set_cons_succ]
    refine wpAnyH_take (i := 6) (oi := ⟨some 12, _, _, _, _, _⟩) (v := undef) rfl (by kernel_rfl) (by kernel_rfl) (by kernel_rfl) (fun _ _ _ h => h) (Or.inr ⟨by kernel_rfl, rfl⟩) hHeld ?_
    try simp only [Act.put, List.setIfInBounds_toArray, List.set_cons_zero, List.set_cons_succ]
    refine wpAnyH_take (i := 8) (oi := ⟨some 14, _, _, _, _, _⟩) (v := undef) rfl (by kernel_rfl) (by kernel_rfl) (by kernel_rfl) (fun _ _ _ h => h) (Or.inr ⟨by kernel_rfl, rfl⟩) hHeld ?_
    try simp only [Act.put, List.setIfInBounds_toArray, List.set_cons_zero, List.set_cons_succ]
    refine wpAnyH_take (i := 9) (oi := ⟨some 15, _, _, _, _, _⟩) (v := ?_) rfl (by kernel_rfl) (by kernel_rfl) (by kernel_rfl) (fun _ _ _ h => h) (Or.inl ⟨by kernel_rfl, ?_⟩) hHeld ?_
    rotate_left
    focus (intro W hS; have c0_0 := (hS.1).at_ (j := 0) rfl; have c0_1 := (hS.1).at_ (j := 1) rfl; have c0_2 := (hS.1).at_ (j := 2) rfl; have c0_3 := (hS.1).at_ (j := 3) rfl; have c0_4 := (hS.1).at_ (j := 4) rfl; have c0_5 := (hS.1).at_ (j := 5) rfl; have c0_6 := (hS.1).at_ (j := 6) rfl; have c1_0 := (hS.2.1).at_ (j := 0) rfl; have c2_0 := (hS.2.2.1).at_ (j := 0) rfl; have c3_0 := (hS.2.2.2.1).at_ (j := 0) rfl; clear hS; first | (go_simp; done) | (go_simp; with_reducible rfl))
    try simp only [Act.put, List.setIfInBounds_toArray, List.set_cons_zero, List.set_cons_succ]
    refine wpAnyH_take (i := 10) (oi := ⟨some 5, _, _, _, _, _⟩) (v := ?_) rfl (by kernel_rfl) (by kernel_rfl) (by kernel_rfl) (fun _ _ _ h => h) (Or.inl ⟨by kernel_rfl, ?_⟩) hHeld ?_
    rotate_left
    focus (intro W hS; have c0_0 := (hS.1).at_ (j := 0) rfl; have c0_1 := (hS.1).at_ (j := 1) rfl; have c0_2 := (hS.1).at_ (j := 2) rfl; have c0_3 := (hS.1).at_ (j := 3) rfl; have c0_4 := (hS.1).at_ (j := 4) rfl; have c0_5 := (hS.1).at_ (j := 5) rfl; have c0_6 := (hS.1).at_ (j := 6) rfl; have c1_0 := (hS.2.1).at_ (j := 0) rfl; have c2_0 := (hS.2.2.1).at_ (j := 0) rfl; have c3_0 := (hS.2.2.2.1).at_ (j := 0) rfl; clear hS; first | (go_simp; done) | (go_simp; with_reducible rfl))
    try simp only [Act.put, List.setIfInBounds_toArray, List.set_cons_zero, List.set_cons_succ]
    refine wpAnyH_done (by kernel_rfl) ?_ _
    go_wp2_with fail
    go_ret
    exact ⟨by first | rfl | simp [h8], hHeld.2.2.2.2⟩
  · skip
    refine wpAnyH_take (i := 3) (oi := ⟨some 9, _, _, _, _, _⟩) (v := ?_) rfl (by kernel_rfl) (by kernel_rfl) (by kernel_rfl) (fun _ _ _ h => h) (Or.inl ⟨by kernel_rfl, ?_⟩) hHeld ?_
    rotate_left
    focus (intro W hS; have c0_0 := (hS.1).at_ (j := 0) rfl; have c0_1 := (hS.1).at_ (j := 1) rfl; have c0_2 := (hS.1).at_ (j := 2) rfl; have c0_3 := (hS.1).at_ (j := 3) rfl; have c0_4 := (hS.1).at_ (j := 4) rfl; have c0_5 := (hS.1).at_ (j := 5) rfl; have c0_6 := (hS.1).at_ (j := 6) rfl; have c1_0 := (hS.2.1).at_ (j := 0) rfl; have c2_0 := (hS.2.2.1).at_ (j := 0) rfl; have c3_0 := (hS.2.2.2.1).at_ (j := 0) rfl; clear hS; first | (go_simp; done) | (go_simp; with_reducible rfl))
    try simp only [Act.put, List.setIfInBounds_toArray, List.set_cons_zero, List.set_cons_succ]
    refine wpAnyH_take (i := 4) (oi := ⟨some 10, _, _, _, _, _⟩) (v := ?_) rfl (by kernel_rfl) (by kernel_rfl) (by kernel_rfl) (fun _ _ _ h => h) (Or.inl ⟨by kernel_rfl, ?_⟩) hHeld ?_
    rotate_left
    focus (intro W hS; have c0_0 := (hS.1).at_ (j := 0) rfl; have c0_1 := (hS.1).at_ (j := 1) rfl; have c0_2 := (hS.1).at_ (j := 2) rfl; have c0_3 := (hS.1).at_ (j := 3) rfl; have c0_4 := (hS.1).at_ (j := 4) rfl; have c0_5 := (hS.1).at_ (j := 5) rfl; have c0_6 := (hS.1).at_ (j := 6) rfl; have c1_0 := (hS.2.1).at_ (j := 0) rfl; have c2_0 := (hS.2.2.1).at_ (j := 0) rfl; have c3_0 := (hS.2.2.2.1).at_ (j := 0) rfl; clear hS; first | (go_simp; done) | (go_simp; with_reducible rfl))
    try simp only [Act.put, List.setIfInBounds_toArray, List.set_cons_zero, List.set_cons_succ]
    refine wpAnyH_take (i := 5) (oi := ⟨some 11, _, _, _, _, _⟩) (v := ?_) rfl (by kernel_rfl) (by kernel_rfl) (by kernel_rfl) (fun _ _ _ h => h) (Or.inl ⟨by kernel_rfl, ?_⟩) hHeld ?_
    rotate_left
    focus (intro W hS; have c0_0 := (hS.1).at_ (j := 0) rfl; have c0_1 := (hS.1).at_ (j := 1) rfl; have c0_2 := (hS.1).at_ (j := 2) rfl; have c0_3 := (hS.1).at_ (j := 3) rfl; have c0_4 := (hS.1).at_ (j := 4) rfl; have c0_5 := (hS.1).at_ (j := 5) rfl; have c0_6 := (hS.1).at_ (j := 6) rfl; have c1_0 := (hS.2.1).at_ (j := 0) rfl; have c2_0 := (hS.2.2.1).at_ (j := 0) rfl; have c3_0 := (hS.2.2.2.1).at_ (j := 0) rfl; clear hS; first | (go_simp; done) | (go_simp; with_reducible rfl))
    try simp only [Act.put, List.setIfInBounds_toArray, List.set_cons_zero, List.set_cons_succ]
    refine wpAnyH_take (i := 7) (oi := ⟨some 13, _, _, _, _, _⟩) (v := ?_) rfl (by kernel_rfl) (by kernel_rfl) (by kernel_rfl) (fun _ _ _ h => h) (Or.inl ⟨by kernel_rfl, ?_⟩) hHeld ?_
    rotate_left
    focus (intro W hS; have c0_0 := (hS.1).at_ (j := 0) rfl; have c0_1 := (hS.1).at_ (j := 1) rfl; have c0_2 := (hS.1).at_ (j := 2) rfl; have c0_3 := (hS.1).at_ (j := 3) rfl; have c0_4 := (hS.1).at_ (j := 4) rfl; have c0_5 := (hS.1).at_ (j := 5) rfl; have c0_6 := (hS.1).at_ (j := 6) rfl; have c1_0 := (hS.2.1).at_ (j := 0) rfl; have c2_0 := (hS.2.2.1).at_ (j := 0) rfl; have c3_0 := (hS.2.2.2.1).at_ (j := 0) rfl; clear hS; first | (go_simp; done) | (go_simp; with_reducible rfl))
    try simp only [Act.put, List.setIfInBounds_toArray, List.set_cons_zero, List.set_cons_succ]
    refine wpAnyH_ready (rs := [6]) (by kernel_rfl) (by simp) ?_
    refine AllReadyH.cons (o := ⟨some 12, _, _, _, _, _⟩) rfl (fun K hK => ?_) AllReadyH.nil
    go_simp
    refine Calls.mono (C1.out _) ?_
    rintro e x2 ⟨rfl, hb1⟩
    refine hK.out _ _ ⟨hHeld.1.new hb1, hHeld.2.1.new hb1, hHeld.2.2.1.new hb1, hHeld.2.2.2.1.new hb1, below_trans hHeld.2.2.2.2 hb1 (Nat.le_refl _)⟩ (fun hHeld' => ?_)
    clear hK K hHeld hb1
    have hHeld := hHeld'
    clear hHeld'
    try simp only [Act.put, List.setIfInBounds_toArray, List.set_cons_zero, List.set_cons_succ]
    by_cases h8 : (x.f0 == e) = true
    · skip
      refine wpAnyH_take (i := 8) (oi := ⟨some 14, _, _, _, _, _⟩) (v := ?_) rfl (by kernel_rfl) (by kernel_rfl) (by kernel_rfl) (fun _ _ _ h => h) (Or.inl ⟨by kernel_rfl, ?_⟩) hHeld ?_
      rotate_left
      focus (intro W hS; have c0_0 := (hS.1).at_ (j := 0) rfl; have c0_1 := (hS.1).at_ (j := 1) rfl; have c0_2 := (hS.1).at_ (j := 2) rfl; have c0_3 := (hS.1).at_ (j := 3) rfl; have c0_4 := (hS.1).at_ (j := 4) rfl; have c0_5 := (hS.1).at_ (j := 5) rfl; have c0_6 := (hS.1).at_ (j := 6) rfl; have c1_0 := (hS.2.1).at_ (j := 0) rfl; have c2_0 := (hS.2.2.1).at_ (j := 0) rfl; have c3_0 := (hS.2.2.2.1).at_ (j := 0) rfl; clear hS; first | (go_simp; done) | (go_simp; with_reducible rfl))
      try simp only [Act.put, List.setIfInBounds_toArray, List.set_cons_zero, List.set_cons_succ]
      refine wpAnyH_take (i := 9) (oi := ⟨some 15, _, _, _, _, _⟩) (v := ?_) rfl (by kernel_rfl) (by kernel_rfl) (by kernel_rfl) (fun _ _ _ h => h) (Or.inl ⟨by kernel_rfl, ?_⟩) hHeld ?_
      rotate_left
      focus (intro W hS; have c0_0 := (hS.1).at_ (j := 0) rfl; have c0_1 := (hS.1).at_ (j := 1) rfl; have c0_2 := (hS.1).at_ (j := 2) rfl; have c0_3 := (hS.1).at_ (j := 3) rfl; have c0_4 := (hS.1).at_ (j := 4) rfl; have c0_5 := (hS.1).at_ (j := 5) rfl; have c0_6 := (hS.1).at_ (j := 6) rfl; have c1_0 := (hS.2.1).at_ (j := 0) rfl; have c2_0 := (hS.2.2.1).at_ (j := 0) rfl; have c3_0 := (hS.2.2.2.1).at_ (j := 0) rfl; clear hS; first | (go_simp; done) | (go_simp; with_reducible rfl))
      try simp only [Act.put, List.setIfInBounds_toArray, List.set_cons_zero, List.set_cons_succ]
      refine wpAnyH_take (i := 10) (oi := ⟨some 5, _, _, _, _, _⟩) (v := ?_) rfl (by kernel_rfl) (by kernel_rfl) (by kernel_rfl) (fun _ _ _ h => h) (Or.inl ⟨by kernel_rfl, ?_⟩) hHeld ?_
      rotate_left
      focus (intro W hS; have c0_0 := (hS.1).at_ (j := 0) rfl; have c0_1 := (hS.1).at_ (j := 1) rfl; have c0_2 := (hS.1).at_ (j := 2) rfl; have c0_3 := (hS.1).at_ (j := 3) rfl; have c0_4 := (hS.1).at_ (j := 4) rfl; have c0_5 := (hS.1).at_ (j := 5) rfl; have c0_6 := (hS.1).at_ (j := 6) rfl; have c1_0 := (hS.2.1).at_ (j := 0) rfl; have c2_0 := (hS.2.2.1).at_ (j := 0) rfl; have c3_0 := (hS.2.2.2.1).at_ (j := 0) rfl; clear hS; first | (go_simp; done) | (go_simp; with_reducible rfl))
      try simp only [Act.put, List.setIfInBounds_toArray, List.set_cons_zero, List.set_cons_succ]
      refine wpAnyH_done (by kernel_rfl) ?_ _
      go_wp2_with fail
      go_ret
      exact ⟨by first | rfl | simp [h8], hHeld.2.2.2.2⟩
    · have h8 : (x.f0 == e) = false := by simpa using h8
      refine wpAnyH_take (i := 8) (oi := ⟨some 14, _, _, _, _, _⟩) (v := ?_) rfl (by kernel_rfl) (by kernel_rfl) (by kernel_rfl) (fun _ _ _ h => h) (Or.inl ⟨by kernel_rfl, ?_⟩) hHeld ?_
      rotate_left
      focus (intro W hS; have c0_0 := (hS.1).at_ (j := 0) rfl; have c0_1 := (hS.1).at_ (j := 1) rfl; have c0_2 := (hS.1).at_ (j := 2) rfl; have c0_3 := (hS.1).at_ (j := 3) rfl; have c0_4 := (hS.1).at_ (j := 4) rfl; have c0_5 := (hS.1).at_ (j := 5) rfl; have c0_6 := (hS.1).at_ (j := 6) rfl; have c1_0 := (hS.2.1).at_ (j := 0) rfl; have c2_0 := (hS.2.2.1).at_ (j := 0) rfl; have c3_0 := (hS.2.2.2.1).at_ (j := 0) rfl; clear hS; first | (go_simp; done) | (go_simp; with_reducible rfl))
      try simp only [Act.put, List.setIfInBounds_toArray, List.set_cons_zero, List.set_cons_succ]
      refine wpAnyH_take (i := 9) (oi := ⟨some 15, _, _, _, _, _⟩) (v := ?_) rfl (by kernel_rfl) (by kernel_rfl) (by kernel_rfl) (fun _ _ _ h => h) (Or.inl ⟨by kernel_rfl, ?_⟩) hHeld ?_
      rotate_left
      focus (intro W hS; have c0_0 := (hS.1).at_ (j := 0) rfl; have c0_1 := (hS.1).at_ (j := 1) rfl; have c0_2 := (hS.1).at_ (j := 2) rfl; have c0_3 := (hS.1).at_ (j := 3) rfl; have c0_4 := (hS.1).at_ (j := 4) rfl; have c0_5 := (hS.1).at_ (j := 5) rfl; have c0_6 := (hS.1).at_ (j := 6) rfl; have c1_0 := (hS.2.1).at_ (j := 0) rfl; have c2_0 := (hS.2.2.1).at_ (j := 0) rfl; have c3_0 := (hS.2.2.2.1).at_ (j := 0) rfl; clear hS; first | (go_simp; done) | (go_simp; with_reducible rfl))
      try simp only [Act.put, List.setIfInBounds_toArray, List.set_cons_zero, List.set_cons_succ]
      refine wpAnyH_take (i := 10) (oi := ⟨some 5, _, _, _, _, _⟩) (v := ?_) rfl (by kernel_rfl) (by kernel_rfl) (by kernel_rfl) (fun _ _ _ h => h) (Or.inl ⟨by kernel_rfl, ?_⟩) hHeld ?_
      rotate_left
      focus (intro W hS; have c0_0 := (hS.1).at_ (j := 0) rfl; have c0_1 := (hS.1).at_ (j := 1) rfl; have c0_2 := (hS.1).at_ (j := 2) rfl; have c0_3 := (hS.1).at_ (j := 3) rfl; have c0_4 := (hS.1).at_ (j := 4) rfl; have c0_5 := (hS.1).at_ (j := 5) rfl; have c0_6 := (hS.1).at_ (j := 6) rfl; have c1_0 := (hS.2.1).at_ (j := 0) rfl; have c2_0 := (hS.2.2.1).at_ (j := 0) rfl; have c3_0 := (hS.2.2.2.1).at_ (j := 0) rfl; clear hS; first | (go_simp; done) | (go_simp; with_reducible rfl))
      try simp only [Act.put, List.setIfInBounds_toArray, List.set_cons_zero, List.set_cons_succ]
      refine wpAnyH_done (by kernel_rfl) ?_ _
      go_wp2_with fail
      go_ret
      exact ⟨by first | rfl | simp [h8], hHeld.2.2.2.2⟩

set_option maxHeartbeats 8000000 in
theorem impl_areOwnGrant (l : List TGrant) (A : Option Addr) (n c lo hi : Nat) (e : Int) (w : World) (hn : n ≤ 1048576) (hr : Rd w lo hi 7 A n (cGrant l)) (hcap : n ≤ c) :
    Calls Tryz.prog 72 #[.slice A n c, .int .i64 6, .func (.func 73) #[] #[], .int .i64 e, .func (.func 74) #[] #[]] w (Says (.bool (mPkG l e)) w) := by
  have hmf : ∀ (fn : Fn) (first cap : Array Value) (w : World), (Instr.makeFunc fn first cap).run Tryz.prog w = .ok (.func fn first cap) w := fun _ _ _ _ => rfl
  have HL := Lib.hid (rd_len TGrant.len hr (by decide))
  have k1 : BoxAt (((w.alloc (.cells #[.func (.func 73) #[] #[]] 85)).alloc (.cells #[.int .i64 e] 3)).alloc (.cells #[.func (.func 74) #[] #[]] 120)) w.heap.size 85 #[.func (.func 73) #[] #[]] := ((box_new _ _ _ : BoxAt (w.alloc (.cells #[.func (.func 73) #[] #[]] 85)) _ _ _).alloc_ _).alloc_ _
  have k2 : BoxAt (((w.alloc (.cells #[.func (.func 73) #[] #[]] 85)).alloc (.cells #[.int .i64 e] 3)).alloc (.cells #[.func (.func 74) #[] #[]] 120)) (w.heap.size + 1 + 1) 120 #[.func (.func 74) #[] #[]] := by simpa using box_new ((w.alloc (.cells #[.func (.func 73) #[] #[]] 85)).alloc (.cells #[.int .i64 e] 3)) 120 #[.func (.func 74) #[] #[]]
  have k3 : BoxAt (((w.alloc (.cells #[.func (.func 73) #[] #[]] 85)).alloc (.cells #[.int .i64 e] 3)).alloc (.cells #[.func (.func 74) #[] #[]] 120)) (w.heap.size + 1) 3 #[.int .i64 e] := (show BoxAt ((w.alloc (.cells #[.func (.func 73) #[] #[]] 85)).alloc (.cells #[.int .i64 e] 3)) (w.heap.size + 1) 3 #[.int .i64 e] by simpa using box_new (w.alloc (.cells #[.func (.func 73) #[] #[]] 85)) 3 #[.int .i64 e]).alloc_ _
  have HC := Lib.hid (all_OwG (pPkG e) #[.pointer (some ⟨w.heap.size, 0, none⟩), .pointer (some ⟨w.heap.size + 1 + 1, 0, none⟩), .pointer (some ⟨w.heap.size + 1, 0, none⟩)] l A n c lo hi (((w.alloc (.cells #[.func (.func 73) #[] #[]] 85)).alloc (.cells #[.int .i64 e] 3)).alloc (.cells #[.func (.func 74) #[] #[]] 120)) (by omega) hcap (((hr.alloc _).alloc _).alloc _) (clo_OwG e _ _ _ l _ k1 k2 k3))
  have HB0 := Lib.hid (show Below w.heap.size w (((w.alloc (.cells #[.func (.func 73) #[] #[]] 85)).alloc (.cells #[.int .i64 e] 3)).alloc (.cells #[.func (.func 74) #[] #[]] 120)) from (((Below.refl _ _).alloc (Nat.le_refl _) _).alloc (by simp) _).alloc (by simp <;> omega) _)
  clear k1 k2 k3 hr
  unfold mPkG
  rw [HL.out]
  generalize l.all (pPkG e) = q at HC ⊢
  by_cases h6 : n ≤ 6
  · have g6 : decide ((n : Int) ≤ 6) = true := by simp; omega
    have g7 : decide (n ≤ 6) = true := decide_eq_true h6
    rw [g7]
    clear g7
    go_enter Tryz.func72, Tryz.ntmps72
    go_wp2_with fail
    refine HC.out.mono ?_
    rintro e w1 ⟨rfl, hb1⟩
    have HB1 := Lib.hid (below_trans HB0.out hb1 (by simp <;> omega))
    clear hb1
    go_wp2_with fail
    go_ret
    exact ⟨by cases q <;> rfl, HB1.out⟩
  · have g6 : decide ((n : Int) ≤ 6) = false := by simp; omega
    have g7 : decide (n ≤ 6) = false := decide_eq_false h6
    rw [g7]
    clear g7
    go_enter Tryz.func72, Tryz.ntmps72
    go_wp2_with fail
    go_ret
    exact ⟨rfl, HB0.out⟩

end Go.Proofs.YtmelfgimhilhbaaGreatDoor
