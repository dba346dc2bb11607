/- ClashOf, of the program and of the model. -/
import Derived.Test.YtfceddgacefejaaApplies
import Derived.Test.YtfceddgacefejaaApT
import Derived.Test.YtfceddgacefejaaKCO1
import Derived.Test.YtfceddgacefejaaFun
import Derived.Test.YtfceddgacefejaaCell
import Derived.Test.YtfceddgacefejaaSlI
import Derived.Handy
import Derived.Deep.LoopGhost
namespace Go.Proofs.Ytfceddgacefejaa
open Go Go.ChangeShapes Go.WideShapes Go.ChangeAt Go.RowKit Go.Lib
set_option linter.unusedVariables false
set_option linter.unusedSimpArgs false
set_option maxRecDepth 100000
theorem rd_tailCO3 {w : World} {lo hi n b off : Nat} {x : TRule} {l : List TRule} (h : Rd w lo hi 8 (some ⟨b, off, none⟩) (n + 1) (cRule (x :: l))) :
    Rd w lo hi 8 (some ⟨b, off + 8, none⟩) n (cRule l) := by
  have hc : cRule (x :: l) = TRule.cells x ++ cRule l := rfl
  refine ⟨?_, fun hn => ?_⟩
  · have := h.1
    rw [hc, List.length_append, TRule.len] at this
    omega
  · obtain ⟨b', off', e, h1, h2, h3⟩ := h.2 (by omega)
    cases e
    refine ⟨b, off + 8, rfl, h1, h2, fun j u hu => ?_⟩
    rw [Nat.add_assoc]
    refine h3 (8 + j) u ?_
    rw [hc, List.getElem?_append_right (by rw [TRule.len]; omega), TRule.len]
    simpa using hu

theorem rd_tailCO2 {w : World} {lo hi n b off : Nat} {x : TRule} {l : List TRule} (h : Rd w lo hi 8 (some ⟨b, off, none⟩) (n + 1) (cRule (x :: l))) :
    Rd w lo hi 8 (some ⟨b, off + 8, none⟩) n (cRule l) := by
  have hc : cRule (x :: l) = TRule.cells x ++ cRule l := rfl
  refine ⟨?_, fun hn => ?_⟩
  · have := h.1
    rw [hc, List.length_append, TRule.len] at this
    omega
  · obtain ⟨b', off', e, h1, h2, h3⟩ := h.2 (by omega)
    cases e
    refine ⟨b, off + 8, rfl, h1, h2, fun j u hu => ?_⟩
    rw [Nat.add_assoc]
    refine h3 (8 + j) u ?_
    rw [hc, List.getElem?_append_right (by rw [TRule.len]; omega), TRule.len]
    simpa using hu

set_option maxHeartbeats 4000000 in
theorem any_CO3 (p : TRule → Bool) (lb : Array Value) (l : List TRule) (A : Option Addr) (n c lo hi : Nat) (w : World) (hn : n ≤ 17592186044416) (hcap : n ≤ c)
    (hr : Rd w lo hi 8 A n (cRule l)) (hp : PredB Try.prog 155 lb (fun x : TRule => .agg #[.int .i64 x.f0, .int .i64 x.f1, .int .i64 x.f2, .int .i64 x.f3, .int .i64 x.f4, .int .i64 x.f5, .int .i64 x.f6, .int .i64 x.f7]) p l w) :
    Calls Try.prog 153 #[.slice A n c, .func (.func 155) #[] lb] w (Says (.bool (l.any p)) w) := by
  have HR := Lib.hid hr
  have HP := Lib.hid hp
  clear hr hp
  go_enter Try.func153, Try.ntmps153
  go_wp2_with fail
  go_loopg [0] n (fun gg v wr => ∃ (A' : Option Addr) (n' c' : Nat) (l' : List TRule), v = .slice A' n' c' ∧ n' ≤ gg ∧ n' ≤ n ∧ n' ≤ c' ∧ Hid (Rd wr lo hi 8 A' n' (cRule l')) ∧ Hid (∀ x, x ∈ l' → x ∈ l) ∧ Hid (l.any p = l'.any p) ∧ Hid (Below w.heap.size w wr))
  case atStart => exact ⟨_, _, _, l, rfl, Nat.le_refl _, Nat.le_refl _, hcap, HR, Lib.hid (fun _ h => h), Lib.hid rfl, Lib.hid (Below.refl _ _)⟩
  case round =>
    obtain ⟨A', n', c', l', rfl, hg, hn', hcc, HR', HM, HA, HB⟩ := hrel
    cases l' with
    | nil =>
      obtain rfl : n' = 0 := by have := HR'.out.1; simp at this; omega
      have HE := Lib.hid (show l.any p = false from HA.out)
      go_wp2_with fail
      go_ret
      exact ⟨by rw [HE.out]; rfl, HB.out⟩
    | cons x t =>
      have HL := Lib.hid (rd_len TRule.len HR'.out (by decide))
      obtain ⟨m, rfl⟩ : ∃ m, n' = m + 1 := ⟨t.length, by have := HL.out; simp at this; omega⟩
      obtain ⟨b, off, x', rfl, _, _, hz, hc⟩ := rd_elem (k := 0) TRule.len HR'.out HL.out (by omega)
      obtain rfl : x = x' := by simpa using hz
      have c0 : wr.cell? ⟨b, off, none⟩ = some (.int .i64 x.f0) := by simpa using hc 0 _ rfl
      have c1 : wr.cell? ⟨b, off + 1, none⟩ = some (.int .i64 x.f1) := by simpa using hc 1 _ rfl
      have c2 : wr.cell? ⟨b, off + 2, none⟩ = some (.int .i64 x.f2) := by simpa using hc 2 _ rfl
      have c3 : wr.cell? ⟨b, off + 3, none⟩ = some (.int .i64 x.f3) := by simpa using hc 3 _ rfl
      have c4 : wr.cell? ⟨b, off + 4, none⟩ = some (.int .i64 x.f4) := by simpa using hc 4 _ rfl
      have c5 : wr.cell? ⟨b, off + 5, none⟩ = some (.int .i64 x.f5) := by simpa using hc 5 _ rfl
      have c6 : wr.cell? ⟨b, off + 6, none⟩ = some (.int .i64 x.f6) := by simpa using hc 6 _ rfl
      have c7 : wr.cell? ⟨b, off + 7, none⟩ = some (.int .i64 x.f7) := by simpa using hc 7 _ rfl
      have HT := Lib.hid (rd_tailCO3 HR'.out)
      have hcall := HP.out wr x (HM.out x (by simp)) HB.out
      have HMt := Lib.hid (fun y (h : y ∈ t) => HM.out y (List.mem_cons_of_mem _ h))
      clear hc hz HR' HM
      cases hq : p x with
      | true =>
        rw [hq] at hcall
        have HE := Lib.hid (show l.any p = true by rw [HA.out, List.any_cons, hq]; rfl)
        clear hq HA
        go_wp2_with (go_at_call 155; refine hcall.mono ?_; rintro e w1 ⟨rfl, hb1⟩; have HB1 := Lib.hid hb1; clear hb1)
        go_ret
        exact ⟨by rw [HE.out]; rfl, below_trans HB.out HB1.out (Nat.le_refl _)⟩
      | false =>
        rw [hq] at hcall
        have HE := Lib.hid (show l.any p = t.any p by rw [HA.out, List.any_cons, hq]; rfl)
        clear hq HA
        rcases Nat.eq_zero_or_pos m with rfl | hm
        · obtain rfl : t = [] := by have := HL.out; simpa using this
          go_wp2_with (go_at_call 155; refine hcall.mono ?_; rintro e w1 ⟨rfl, hb1⟩; have HB1 := Lib.hid hb1; clear hb1)
          go_roundg 0
          case measure => omega
          case rel => exact ⟨_, _, _, [], rfl, Nat.le_refl _, by omega, by omega, Lib.hid Rd.empty, HMt, HE, Lib.hid (below_trans HB.out HB1.out (Nat.le_refl _))⟩
        · go_wp2_with (go_at_call 155; refine hcall.mono ?_; rintro e w1 ⟨rfl, hb1⟩; have HB1 := Lib.hid hb1; clear hb1)
          go_roundg m
          case measure => omega
          case rel => exact ⟨_, _, _, t, rfl, by omega, by omega, by omega, Lib.hid (HT.out.new HB1.out), HMt, HE, Lib.hid (below_trans HB.out HB1.out (Nat.le_refl _))⟩

set_option maxHeartbeats 4000000 in
theorem any_CO2 (p : TRule → Bool) (lb : Array Value) (l : List TRule) (A : Option Addr) (n c lo hi : Nat) (w : World) (hn : n ≤ 17592186044416) (hcap : n ≤ c)
    (hr : Rd w lo hi 8 A n (cRule l)) (hp : PredB Try.prog 154 lb (fun x : TRule => .agg #[.int .i64 x.f0, .int .i64 x.f1, .int .i64 x.f2, .int .i64 x.f3, .int .i64 x.f4, .int .i64 x.f5, .int .i64 x.f6, .int .i64 x.f7]) p l w) :
    Calls Try.prog 153 #[.slice A n c, .func (.func 154) #[] lb] w (Says (.bool (l.any p)) w) := by
  have HR := Lib.hid hr
  have HP := Lib.hid hp
  clear hr hp
  go_enter Try.func153, Try.ntmps153
  go_wp2_with fail
  go_loopg [0] n (fun gg v wr => ∃ (A' : Option Addr) (n' c' : Nat) (l' : List TRule), v = .slice A' n' c' ∧ n' ≤ gg ∧ n' ≤ n ∧ n' ≤ c' ∧ Hid (Rd wr lo hi 8 A' n' (cRule l')) ∧ Hid (∀ x, x ∈ l' → x ∈ l) ∧ Hid (l.any p = l'.any p) ∧ Hid (Below w.heap.size w wr))
  case atStart => exact ⟨_, _, _, l, rfl, Nat.le_refl _, Nat.le_refl _, hcap, HR, Lib.hid (fun _ h => h), Lib.hid rfl, Lib.hid (Below.refl _ _)⟩
  case round =>
    obtain ⟨A', n', c', l', rfl, hg, hn', hcc, HR', HM, HA, HB⟩ := hrel
    cases l' with
    | nil =>
      obtain rfl : n' = 0 := by have := HR'.out.1; simp at this; omega
      have HE := Lib.hid (show l.any p = false from HA.out)
      go_wp2_with fail
      go_ret
      exact ⟨by rw [HE.out]; rfl, HB.out⟩
    | cons x t =>
      have HL := Lib.hid (rd_len TRule.len HR'.out (by decide))
      obtain ⟨m, rfl⟩ : ∃ m, n' = m + 1 := ⟨t.length, by have := HL.out; simp at this; omega⟩
      obtain ⟨b, off, x', rfl, _, _, hz, hc⟩ := rd_elem (k := 0) TRule.len HR'.out HL.out (by omega)
      obtain rfl : x = x' := by simpa using hz
      have c0 : wr.cell? ⟨b, off, none⟩ = some (.int .i64 x.f0) := by simpa using hc 0 _ rfl
      have c1 : wr.cell? ⟨b, off + 1, none⟩ = some (.int .i64 x.f1) := by simpa using hc 1 _ rfl
      have c2 : wr.cell? ⟨b, off + 2, none⟩ = some (.int .i64 x.f2) := by simpa using hc 2 _ rfl
      have c3 : wr.cell? ⟨b, off + 3, none⟩ = some (.int .i64 x.f3) := by simpa using hc 3 _ rfl
      have c4 : wr.cell? ⟨b, off + 4, none⟩ = some (.int .i64 x.f4) := by simpa using hc 4 _ rfl
      have c5 : wr.cell? ⟨b, off + 5, none⟩ = some (.int .i64 x.f5) := by simpa using hc 5 _ rfl
      have c6 : wr.cell? ⟨b, off + 6, none⟩ = some (.int .i64 x.f6) := by simpa using hc 6 _ rfl
      have c7 : wr.cell? ⟨b, off + 7, none⟩ = some (.int .i64 x.f7) := by simpa using hc 7 _ rfl
      have HT := Lib.hid (rd_tailCO2 HR'.out)
      have hcall := HP.out wr x (HM.out x (by simp)) HB.out
      have HMt := Lib.hid (fun y (h : y ∈ t) => HM.out y (List.mem_cons_of_mem _ h))
      clear hc hz HR' HM
      cases hq : p x with
      | true =>
        rw [hq] at hcall
        have HE := Lib.hid (show l.any p = true by rw [HA.out, List.any_cons, hq]; rfl)
        clear hq HA
        go_wp2_with (go_at_call 154; refine hcall.mono ?_; rintro e w1 ⟨rfl, hb1⟩; have HB1 := Lib.hid hb1; clear hb1)
        go_ret
        exact ⟨by rw [HE.out]; rfl, below_trans HB.out HB1.out (Nat.le_refl _)⟩
      | false =>
        rw [hq] at hcall
        have HE := Lib.hid (show l.any p = t.any p by rw [HA.out, List.any_cons, hq]; rfl)
        clear hq HA
        rcases Nat.eq_zero_or_pos m with rfl | hm
        · obtain rfl : t = [] := by have := HL.out; simpa using this
          go_wp2_with (go_at_call 154; refine hcall.mono ?_; rintro e w1 ⟨rfl, hb1⟩; have HB1 := Lib.hid hb1; clear hb1)
          go_roundg 0
          case measure => omega
          case rel => exact ⟨_, _, _, [], rfl, Nat.le_refl _, by omega, by omega, Lib.hid Rd.empty, HMt, HE, Lib.hid (below_trans HB.out HB1.out (Nat.le_refl _))⟩
        · go_wp2_with (go_at_call 154; refine hcall.mono ?_; rintro e w1 ⟨rfl, hb1⟩; have HB1 := Lib.hid hb1; clear hb1)
          go_roundg m
          case measure => omega
          case rel => exact ⟨_, _, _, t, rfl, by omega, by omega, by omega, Lib.hid (HT.out.new HB1.out), HMt, HE, Lib.hid (below_trans HB.out HB1.out (Nat.le_refl _))⟩

/-- Two rules that clash, if both apply. -/
def rClash (a b : TRule) : Bool := (a.f0 != b.f0) && (a.f5 != b.f5)
def mCl (l : List TRule) (q : TRequest) : List TRule := l.filter (fun x => mApplies x q)
def mClash (l : List TRule) (q : TRequest) : Bool := (mCl l q).any fun a => (mCl l q).any fun b => rClash a b
set_option maxHeartbeats 4000000 in
theorem clo_CO1 (q : TRequest) (B : Nat) (l : List TRule) (w : World) (hq : BoxAt w B 57 #[.int .i64 q.f0, .int .i64 q.f1, .int .i64 q.f2]) :
    PredB Try.prog 152 #[.pointer (some ⟨B, 0, none⟩)] (fun x : TRule => .agg #[.int .i64 x.f0, .int .i64 x.f1, .int .i64 x.f2, .int .i64 x.f3, .int .i64 x.f4, .int .i64 x.f5, .int .i64 x.f6, .int .i64 x.f7]) (fun x => mApplies x q) l w := fun W x hx hb => by
  have q0 : W.cell? ⟨B, 0, none⟩ = _ := (hq.new hb).at_ (j := 0) rfl
  have q1 : W.cell? ⟨B, 1, none⟩ = _ := (hq.new hb).at_ (j := 1) rfl
  have q2 : W.cell? ⟨B, 2, none⟩ = _ := (hq.new hb).at_ (j := 2) rfl
  have m0 : B < W.heap.size := (hq.new hb).lt
  have n0' : B ≠ W.heap.size := Nat.ne_of_lt m0
  have HC := Lib.hid (fun V => impl_Applies x q V)
  clear hb hq hx
  change Calls Try.prog _ #[.agg #[.int .i64 x.f0, .int .i64 x.f1, .int .i64 x.f2, .int .i64 x.f3, .int .i64 x.f4, .int .i64 x.f5, .int .i64 x.f6, .int .i64 x.f7], .pointer (some ⟨B, 0, none⟩)] _ (Says (.bool (mApplies x q)) W)
  generalize mApplies x q = r at HC ⊢
  go_enter Try.func152, Try.ntmps152
  go_wp2_with fail
  refine (HC.out _).mono ?_
  rintro e w1 ⟨rfl, hb1⟩
  have HB1 := Lib.hid (((Below.refl W.heap.size W).alloc (Nat.le_refl _) _).trans (hb1.mono (by simp <;> omega)))
  clear hb1
  go_wp2_with fail
  go_ret
  exact ⟨rfl, HB1.out⟩
set_option maxHeartbeats 4000000 in
theorem clo_CO3 (a : TRule) (B : Nat) (l : List TRule) (w : World) (hq : BoxAt w B 165 #[.int .i64 a.f0, .int .i64 a.f1, .int .i64 a.f2, .int .i64 a.f3, .int .i64 a.f4, .int .i64 a.f5, .int .i64 a.f6, .int .i64 a.f7]) :
    PredB Try.prog 155 #[.pointer (some ⟨B, 0, none⟩)] (fun x : TRule => .agg #[.int .i64 x.f0, .int .i64 x.f1, .int .i64 x.f2, .int .i64 x.f3, .int .i64 x.f4, .int .i64 x.f5, .int .i64 x.f6, .int .i64 x.f7]) (fun x => rClash a x) l w := fun W x hx hb => by
  have q0 : W.cell? ⟨B, 0, none⟩ = _ := (hq.new hb).at_ (j := 0) rfl
  have q5 : W.cell? ⟨B, 5, none⟩ = _ := (hq.new hb).at_ (j := 5) rfl
  have m0 : B < W.heap.size := (hq.new hb).lt
  have n0' : B ≠ W.heap.size := Nat.ne_of_lt m0
  clear hb hq hx
  change Calls Try.prog _ #[.agg #[.int .i64 x.f0, .int .i64 x.f1, .int .i64 x.f2, .int .i64 x.f3, .int .i64 x.f4, .int .i64 x.f5, .int .i64 x.f6, .int .i64 x.f7], .pointer (some ⟨B, 0, none⟩)] _ (Says (.bool (rClash a x)) W)
  by_cases h0 : a.f0 = x.f0
  · have HE := Lib.hid (show rClash a x = false by simp [rClash, h0])
    go_enter Try.func155, Try.ntmps155
    go_wp2_with fail
    go_ret
    exact ⟨by rw [HE.out]; rfl, by repeat (first | exact Below.refl _ _ | (refine Below.alloc ?_ (by first | omega | (simp <;> omega)) _))⟩
  · go_enter Try.func155, Try.ntmps155
    go_wp2_with fail
    go_ret
    exact ⟨by unfold rClash; rfl, by repeat (first | exact Below.refl _ _ | (refine Below.alloc ?_ (by first | omega | (simp <;> omega)) _))⟩

set_option maxHeartbeats 4000000 in
theorem clo_CO2 (L : List TRule) (A : Option Addr) (n c lo hi B : Nat) (l : List TRule) (w : World) (hn : n ≤ 1048576) (hk : n ≤ c) (hr : Rd w lo hi 8 A n (cRule L)) (hq : BoxAt w B 55 #[.slice A n c]) :
    PredB Try.prog 154 #[.pointer (some ⟨B, 0, none⟩)] (fun x : TRule => .agg #[.int .i64 x.f0, .int .i64 x.f1, .int .i64 x.f2, .int .i64 x.f3, .int .i64 x.f4, .int .i64 x.f5, .int .i64 x.f6, .int .i64 x.f7]) (fun a => L.any fun b => rClash a b) l w := fun W x hx hb => by
  have hmf : ∀ (fn : Fn) (first cap : Array Value) (w : World), (Instr.makeFunc fn first cap).run Try.prog w = .ok (.func fn first cap) w := fun _ _ _ _ => rfl
  have q0 : W.cell? ⟨B, 0, none⟩ = _ := (hq.new hb).at_ (j := 0) rfl
  have m0 : B < W.heap.size := (hq.new hb).lt
  have n0' : B ≠ W.heap.size := Nat.ne_of_lt m0
  have HC := Lib.hid (any_CO3 (fun b => rClash x b) #[.pointer (some ⟨W.heap.size, 0, none⟩)] L A n c lo hi (W.alloc (.cells #[.int .i64 x.f0, .int .i64 x.f1, .int .i64 x.f2, .int .i64 x.f3, .int .i64 x.f4, .int .i64 x.f5, .int .i64 x.f6, .int .i64 x.f7] 165)) (by omega) hk ((hr.new hb).alloc _) (clo_CO3 x W.heap.size L _ (box_new _ _ _)))
  clear hb hq hx hr
  change Calls Try.prog _ #[.agg #[.int .i64 x.f0, .int .i64 x.f1, .int .i64 x.f2, .int .i64 x.f3, .int .i64 x.f4, .int .i64 x.f5, .int .i64 x.f6, .int .i64 x.f7], .pointer (some ⟨B, 0, none⟩)] _ (Says (.bool (L.any fun b => rClash x b)) W)
  generalize (L.any fun b => rClash x b) = r at HC ⊢
  go_enter Try.func154, Try.ntmps154
  go_wp2_with fail
  refine HC.out.mono ?_
  rintro e w1 ⟨rfl, hb1⟩
  have HB1 := Lib.hid (((Below.refl W.heap.size W).alloc (Nat.le_refl _) _).trans (hb1.mono (by simp <;> omega)))
  clear hb1
  go_wp2_with fail
  go_ret
  exact ⟨rfl, HB1.out⟩
set_option maxHeartbeats 8000000 in
theorem impl_ClashOf (l : List TRule) (A : Option Addr) (n c lo hi : Nat) (q : TRequest) (w : World) (h0 : n ≤ 1048576) (hr : Rd w lo hi 8 A n (cRule l)) (b0 : Hid (cRuleOk l)) :
    Calls Try.prog 43 #[.slice A n c, vReq q] w (Says (.bool (mClash l q)) w) := by
  have hmf : ∀ (fn : Fn) (first cap : Array Value) (w : World), (Instr.makeFunc fn first cap).run Try.prog w = .ok (.func fn first cap) w := fun _ _ _ _ => rfl
  have HF : Hid ((mCl l q).length ≤ 1048576) := Lib.hid (by have := List.length_filter_le (fun x => mApplies x q) l; have := rd_len TRule.len hr (by decide); unfold mCl; omega)
  have HC := kCO1.keep (fun x => mApplies x q) #[.pointer (some ⟨w.heap.size, 0, none⟩)] l A n c lo hi (w.heap.size + 1) ((w.alloc (.cells #[.int .i64 q.f0, .int .i64 q.f1, .int .i64 q.f2] 57)).alloc (.cells #[.func (.func 152) #[] (#[.pointer (some ⟨w.heap.size, 0, none⟩)])] 171)) h0 ((hr.alloc _).alloc _) (by simpa using box_new (w.alloc (.cells #[.int .i64 q.f0, .int .i64 q.f1, .int .i64 q.f2] 57)) 171 #[.func (.func 152) #[] (#[.pointer (some ⟨w.heap.size, 0, none⟩)])])
    (clo_CO1 q w.heap.size l _ ((box_new _ _ _).alloc_ _))
  change Calls _ _ _ _ (MakesO _ _ (mCl l q).length (cRule (mCl l q)) _) at HC
  replace HC := Lib.hid HC
  unfold mClash
  clear hr b0
  generalize mCl l q = L at HC HF ⊢
  go_enter Try.func43, Try.ntmps43
  go_wp2_with fail
  refine HC.out.mono ?_
  rintro e w2 ⟨v2, rfl, ho2, hb2⟩
  have HB2 := Lib.hid (below_trans (((Below.refl _ _).alloc (Nat.le_refl _) _).alloc (by simp) _) hb2 (by simp <;> omega) : Below w.heap.size w w2)
  obtain ⟨A2, c2, rfl, hF2⟩ := fr_of_own ho2
  have HF2 := Lib.hid hF2
  clear ho2 hb2 hF2 HC
  have HB3 := Lib.hid (HB2.out.alloc HB2.out.size (.cells #[.slice A2 L.length c2] 55))
  have KB := Lib.hid (box_new w2 55 #[.slice A2 L.length c2])
  have HR3 := Lib.hid (HF2.out.rd.alloc (.cells #[.slice A2 L.length c2] 55))
  go_wp2_with fail
  have HA := any_CO2 (fun a => L.any fun b => rClash a b) #[.pointer (some ⟨w2.heap.size, 0, none⟩)] L A2 L.length c2 _ _ _ (by have := HF.out; omega) HF2.out.cap HR3.out (clo_CO2 L A2 L.length c2 _ _ w2.heap.size L _ HF.out HF2.out.cap HR3.out KB.out)
  refine HA.mono ?_
  rintro e w4 ⟨rfl, hb4⟩
  have HB4 := Lib.hid (below_trans HB3.out hb4 (by have := HB3.out.size; omega))
  clear hb4 HA
  go_wp2_with fail
  go_ret
  exact ⟨rfl, HB4.out⟩

theorem bne_sw (x y : Int) : (x != y) = (y != x) := by
  by_cases h : x = y
  · rw [h]
  · rw [bne_iff_ne.2 h, bne_iff_ne.2 (Ne.symm h)]
theorem rClash_comm (a b : TRule) : rClash a b = rClash b a := by
  unfold rClash
  rw [bne_sw a.f0 b.f0, bne_sw a.f5 b.f5]
theorem rClash_self (a : TRule) : rClash a a = false := by simp [rClash]
theorem rangeI_snoc (k : Nat) : rangeI 0 (k + 1) = rangeI 0 k ++ [(k : Int)] := by
  unfold rangeI
  rw [List.range_succ, List.map_append, List.map_cons, List.map_nil, Int.zero_add]
theorem mTo_at (l : List TRule) (q : TRequest) : ∀ k, k ≤ l.length → ((rangeI 0 k).filter (mAt l q)).map (fun i => l[i.toNat]?) = ((l.take k).filter (fun x => mApplies x q)).map some := by
  intro k
  induction k with
  | zero => intro _; rw [List.take_zero]; rfl
  | succ k ih =>
    intro hk
    have hz : l[k]? = some (l[k]'(by omega)) := List.getElem?_eq_getElem (by omega)
    generalize l[k]'(by omega) = x at hz
    have hm : mAt l q (k : Int) = mApplies x q := by unfold mAt; rw [Int.toNat_natCast, hz]
    rw [rangeI_snoc, List.filter_append, List.map_append, ih (by omega), List.take_add_one, hz, Option.toList_some, List.filter_append, List.map_append]
    congr 1
    cases h : mApplies x q
    · rw [h] at hm; simp [hm, h]
    · rw [h] at hm; simp [hm, h, hz]
theorem mTo_rules {l : List TRule} {q : TRequest} {i : Nat} {u : Int} (h : (mTo l q)[i]? = some u) : ∃ (k : Nat) (y : TRule), u = (k : Int) ∧ l[k]? = some y ∧ (mCl l q)[i]? = some y := by
  have hm := mTo_at l q l.length (Nat.le_refl _)
  rw [List.take_length] at hm
  have hu : u ∈ mTo l q := List.mem_of_getElem? h
  obtain ⟨k, hk, rfl⟩ := rangeI_mem (List.mem_filter.1 hu).1
  have h2 : ((mTo l q).map (fun i => l[i.toNat]?))[i]? = some (l[k]?) := by rw [List.getElem?_map, h]; simp
  rw [show (mTo l q).map (fun i => l[i.toNat]?) = (mCl l q).map some from hm, List.getElem?_map] at h2
  obtain ⟨y, hy, he⟩ := Option.map_eq_some_iff.1 h2
  exact ⟨k, y, by simp, he.symm, hy⟩
theorem mTo_cl (l : List TRule) (q : TRequest) : (mTo l q).length = (mCl l q).length := by
  have hm := mTo_at l q l.length (Nat.le_refl _)
  rw [List.take_length] at hm
  have := congrArg List.length hm
  rw [List.length_map, List.length_map] at this
  exact this
theorem clash_hit {L : List TRule} {i k : Nat} {y z : TRule} (hy : L[i]? = some y) (hz : L[k]? = some z) (h : rClash y z = true) : (L.any fun a => L.any fun b => rClash a b) = true := by
  rw [List.any_eq_true]
  exact ⟨y, List.mem_of_getElem? hy, List.any_eq_true.2 ⟨z, List.mem_of_getElem? hz, h⟩⟩
theorem clash_none {L : List TRule} (h : ∀ (i k : Nat) (y z : TRule), i < L.length → k < i → L[i]? = some y → L[k]? = some z → rClash y z = false) : (L.any fun a => L.any fun b => rClash a b) = false := by
  rw [Bool.eq_false_iff]
  intro hh
  rw [List.any_eq_true] at hh
  obtain ⟨y, hy, hh⟩ := hh
  rw [List.any_eq_true] at hh
  obtain ⟨z, hz, hc⟩ := hh
  obtain ⟨i, hi⟩ := List.getElem?_of_mem hy
  obtain ⟨k, hk⟩ := List.getElem?_of_mem hz
  have hil : i < L.length := (List.getElem?_eq_some_iff.1 hi).1
  have hkl : k < L.length := (List.getElem?_eq_some_iff.1 hk).1
  rcases Nat.lt_trichotomy i k with hlt | rfl | hlt
  · rw [rClash_comm, h k i z y hkl hlt hk hi] at hc; cases hc
  · rw [hi] at hk; cases hk; rw [rClash_self] at hc; cases hc
  · rw [h i k y z hil hlt hi hk] at hc; cases hc

end Go.Proofs.Ytfceddgacefejaa
