/- impl.anyOf and impl.allOf at slices of Flow. -/
import Derived.Test.YtcankpiidjhhpaaTFlow
import Derived.Test.YtcankpiidjhhpaaFun
namespace Go.Proofs.Ytcankpiidjhhpaa
open Go Go.ChangeShapes Go.WideShapes Go.ChangeAt Go.RowKit Go.Lib
set_option linter.unusedVariables false
set_option linter.unusedSimpArgs false
set_option maxRecDepth 100000
theorem rd_tailFlow {w : World} {lo hi n b off : Nat} {x : TFlow} {l : List TFlow} (h : Rd w lo hi 3 (some ⟨b, off, none⟩) (n + 1) (cFlow (x :: l))) :
  Rd w lo hi 3 (some ⟨b, off + 3, none⟩) n (cFlow l) := by
 have hc : cFlow (x :: l) = TFlow.cells x ++ cFlow l := rfl
 refine ⟨?_, fun hn => ?_⟩
 ·
  have := h.1
  rw [hc, List.length_append, TFlow.len] at this
  omega
 ·
  obtain ⟨b', off', e, h1, h2, h3⟩ := h.2 (by omega)
  cases e
  refine ⟨b, off + 3, rfl, h1, h2, fun j u hu => ?_⟩
  rw [Nat.add_assoc]
  refine h3 (3 + j) u ?_
  rw [hc, List.getElem?_append_right (by rw [TFlow.len]; omega), TFlow.len]
  simpa using hu
set_option maxHeartbeats 4000000 in
theorem any_Flow (p : TFlow → Bool) (lb : Array Value) (l : List TFlow) (A : Option Addr) (n c lo hi : Nat) (w : World) (hn : n ≤ 17592186044416) (hcap : n ≤ c)
  (hr : Rd w lo hi 3 A n (cFlow l)) (hp : PredB Try.prog 98 lb (fun x : TFlow => .agg #[.int .i64 x.f0, .int .i64 x.f1, .int .i64 x.f2]) p l w) :
  Calls Try.prog 97 #[.slice A n c, .func (.func 98) #[] lb] w (Says (.bool (l.any p)) w) := by
 have HR := Lib.hid hr
 have HP := Lib.hid hp
 clear hr hp
 go_enter Try.func97, Try.ntmps97
 go_wp2_with fail
 go_loopg [0] n (fun gg v wr => ∃ (A' : Option Addr) (n' c' : Nat) (l' : List TFlow), v = .slice A' n' c' ∧ n' ≤ gg ∧ n' ≤ n ∧ n' ≤ c' ∧ Hid (Rd wr lo hi 3 A' n' (cFlow l')) ∧ Hid (∀ x, x ∈ l' → x ∈ l) ∧ Hid (l.any p = l'.any p) ∧ Hid (Below w.heap.size w wr))
 case atStart => exact ⟨_, _, _, l, rfl, Nat.le_refl _, Nat.le_refl _, hcap, HR, Lib.hid (fun _ h => h), Lib.hid rfl, Lib.hid (Below.refl _ _)⟩
 case round =>
  obtain ⟨A', n', c', l', rfl, hg, hn', hcc, HR', HM, HA, HB⟩ := hrel
  cases l' with
  | nil =>
   obtain rfl : n' = 0 := by have := HR'.out.1; simp at this; omega
   have HE := Lib.hid (show l.any p = false from HA.out)
   go_wp2_with fail
   go_ret
   exact ⟨by rw [HE.out]; rfl, HB.out⟩
  | cons x t =>
   have HL := Lib.hid (rd_len TFlow.len HR'.out (by decide))
   obtain ⟨m, rfl⟩ : ∃ m, n' = m + 1 := ⟨t.length, by have := HL.out; simp at this; omega⟩
   obtain ⟨b, off, x', rfl, _, _, hz, hc⟩ := rd_elem (k := 0) TFlow.len HR'.out HL.out (by omega)
   obtain rfl : x = x' := by simpa using hz
   have c0 : wr.cell? ⟨b, off, none⟩ = some (.int .i64 x.f0) := by simpa using hc 0 _ rfl
   have c1 : wr.cell? ⟨b, off + 1, none⟩ = some (.int .i64 x.f1) := by simpa using hc 1 _ rfl
   have c2 : wr.cell? ⟨b, off + 2, none⟩ = some (.int .i64 x.f2) := by simpa using hc 2 _ rfl
   have HT := Lib.hid (rd_tailFlow HR'.out)
   have hcall := HP.out wr x (HM.out x (by simp)) HB.out
   have HMt := Lib.hid (fun y (h : y ∈ t) => HM.out y (List.mem_cons_of_mem _ h))
   clear hc hz HR' HM
   cases hq : p x with
   | true =>
    rw [hq] at hcall
    have HE := Lib.hid (show l.any p = true by rw [HA.out, List.any_cons, hq]; rfl)
    clear hq HA
    go_wp2_with (go_at_call 98; refine hcall.mono ?_; rintro e w1 ⟨rfl, hb1⟩; have HB1 := Lib.hid hb1; clear hb1)
    go_ret
    exact ⟨by rw [HE.out]; rfl, below_trans HB.out HB1.out (Nat.le_refl _)⟩
   | false =>
    rw [hq] at hcall
    have HE := Lib.hid (show l.any p = t.any p by rw [HA.out, List.any_cons, hq]; rfl)
    clear hq HA
    rcases Nat.eq_zero_or_pos m with rfl | hm
    ·
     obtain rfl : t = [] := by have := HL.out; simpa using this
     go_wp2_with (go_at_call 98; refine hcall.mono ?_; rintro e w1 ⟨rfl, hb1⟩; have HB1 := Lib.hid hb1; clear hb1)
     go_roundg 0
     case measure => omega
     case rel => exact ⟨_, _, _, [], rfl, Nat.le_refl _, by omega, by omega, Lib.hid Rd.empty, HMt, HE, Lib.hid (below_trans HB.out HB1.out (Nat.le_refl _))⟩
    ·
     go_wp2_with (go_at_call 98; refine hcall.mono ?_; rintro e w1 ⟨rfl, hb1⟩; have HB1 := Lib.hid hb1; clear hb1)
     go_roundg m
     case measure => omega
     case rel => exact ⟨_, _, _, t, rfl, by omega, by omega, by omega, Lib.hid (HT.out.new HB1.out), HMt, HE, Lib.hid (below_trans HB.out HB1.out (Nat.le_refl _))⟩
theorem nots_Flow (p : TFlow → Bool) (lb : Array Value) (l : List TFlow) (B : Nat) (w : World) (hq : w.cell? ⟨B, 0, none⟩ = some (.func (.func 67) #[] lb))
  (hp : PredB Try.prog 67 lb (fun x : TFlow => .agg #[.int .i64 x.f0, .int .i64 x.f1, .int .i64 x.f2]) p l w) : PredB Try.prog 98 #[.pointer (some ⟨B, 0, none⟩)] (fun x : TFlow => .agg #[.int .i64 x.f0, .int .i64 x.f1, .int .i64 x.f2]) (fun x => !p x) l w := fun W x hx hb => by
 have c0 := cell_nw hb hq
 have HC := Lib.hid (show Calls Try.prog 67 (#[.agg #[.int .i64 x.f0, .int .i64 x.f1, .int .i64 x.f2]] ++ lb) (W.alloc (.cells #[.int .i64 x.f0, .int .i64 x.f1, .int .i64 x.f2] 87)) _ from hp _ x hx (hb.alloc (by have := hb.size; omega) _))
 have m0 : B < W.heap.size := World.block_lt_of_cell? _ _ c0
 have n0 : B ≠ W.heap.size := Nat.ne_of_lt m0
 clear hb hq hp
 change Calls Try.prog _ #[.agg #[.int .i64 x.f0, .int .i64 x.f1, .int .i64 x.f2], .pointer (some ⟨B, 0, none⟩)] _ (Says (.bool (!p x)) W)
 generalize p x = q at HC ⊢
 cases q
 all_goals
  go_enter Try.func98, Try.ntmps98
  go_wp2_with (go_at_call 67; refine HC.out.mono ?_; rintro e w1 ⟨rfl, hb1⟩; have HB1 := Lib.hid (below_trans ((Below.refl _ _).alloc (Nat.le_refl _) _) hb1 (by simp)); clear hb1)
  go_ret
  exact ⟨rfl, HB1.out⟩
set_option maxHeartbeats 4000000 in
theorem all_Flow (p : TFlow → Bool) (lb : Array Value) (l : List TFlow) (A : Option Addr) (n c lo hi : Nat) (w : World) (hn : n ≤ 17592186044416) (hcap : n ≤ c)
  (hr : Rd w lo hi 3 A n (cFlow l)) (hp : PredB Try.prog 67 lb (fun x : TFlow => .agg #[.int .i64 x.f0, .int .i64 x.f1, .int .i64 x.f2]) p l w) :
  Calls Try.prog 66 #[.slice A n c, .func (.func 67) #[] lb] w (Says (.bool (l.all p)) w) := by
 have hmf : ∀ (fn : Fn) (first cap : Array Value) (w : World), (Instr.makeFunc fn first cap).run Try.prog w = .ok (.func fn first cap) w := fun _ _ _ _ => rfl
 have HC := any_Flow (fun x => !p x) #[.pointer (some ⟨w.heap.size, 0, none⟩)] l A n c lo hi (w.alloc (.cells #[.func (.func 67) #[] lb] 88)) hn hcap (hr.alloc _)
  (nots_Flow p lb l w.heap.size _ (cell_newest (by simp) rfl) (fun W x hx hb => hp W x hx (below_trans ((Below.refl _ _).alloc (Nat.le_refl _) _) hb (by simp))))
 have hE : l.all p = !(l.any fun x => !p x) := by rw [List.all_eq_not_any_not]
 rw [hE]
 clear hr hp hE
 generalize (l.any fun x => !p x) = q at HC ⊢
 have HC := Lib.hid HC
 cases q
 all_goals
  go_enter Try.func66, Try.ntmps66
  go_wp2_with fail
  refine HC.out.mono ?_
  rintro e w1 ⟨rfl, hb1⟩
  have HB1 := Lib.hid (below_trans ((Below.refl _ _).alloc (Nat.le_refl _) _) hb1 (by simp))
  clear hb1
  go_wp2_with fail
  go_ret
  exact ⟨rfl, HB1.out⟩
end Go.Proofs.Ytcankpiidjhhpaa
