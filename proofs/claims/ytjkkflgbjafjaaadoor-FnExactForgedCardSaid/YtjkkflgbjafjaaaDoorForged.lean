/- Forged, of the program and of the model. -/
import Derived.Test.YtjkkflgbjafjaaaDoorGenuine
import Derived.Test.YtjkkflgbjafjaaaDoorKForged
import Derived.Deep.LoopGhost
namespace Go.Proofs.YtjkkflgbjafjaaaDoor
open Go Go.ChangeShapes Go.WideShapes Go.ChangeAt Go.RowKit Go.Lib
set_option linter.unusedVariables false
set_option linter.unusedSimpArgs false
set_option maxRecDepth 100000
def mForged (k : Int) (l : List TLetter) : Int := ((l.filter fun x => !mGen k x).length : Nat)
theorem clo_Forged (k : Int) (B : Nat) (l : List TLetter) (w0 : World) (hT : Pow10 w0) (wk : (Lit.int .i64 k).wf = true) (H : Hid (cLetterOk l)) (h0 : BoxAt w0 B 3 #[.int .i64 k]) :
    PredB Tryd.prog 30 #[.pointer (some ⟨B, 0, none⟩)] (fun x : TLetter => .agg #[.int .i64 x.f0, .int .i64 x.f1, .int .i64 x.f2, .int .i64 x.f3]) (fun x => !mGen k x) l w0 := fun w x hx hb => by
  have C0 := impl_IsGenuine k x (w.alloc (.cells #[.int .i64 x.f0, .int .i64 x.f1, .int .i64 x.f2, .int .i64 x.f3] 24)) (pow10_below (pow10_below hT hb) ((Below.refl _ _).alloc (Nat.le_refl _) _)) wk (Lib.hid (H.out x hx))
  have J := h0.new hb
  have hlt := J.lt
  have c0 : w.cell? ⟨B, 0, none⟩ = some (.int .i64 k) := J.at_ (j := 0) rfl
  clear h0 hb J hT wk
  change Calls Tryd.prog _ #[vLetter x, .pointer (some ⟨B, 0, none⟩)] _ (Says (.bool (!mGen k x)) w)
  generalize mGen k x = r at C0 ⊢
  replace C0 := Lib.hid C0
  cases r
  all_goals
    go_enter Tryd.func30, Tryd.ntmps30
    go_wp2_with fail
    refine Calls.mono C0.out ?_
    rintro e w1 ⟨rfl, hb1⟩
    have HB1 := Lib.hid (below_trans ((Below.refl _ _).alloc (Nat.le_refl _) _) hb1 (by simp))
    clear hb1
    go_wp2_with fail
    go_ret
    exact ⟨rfl, HB1.out⟩

set_option maxHeartbeats 8000000 in
theorem impl_Forged (k : Int) (l : List TLetter) (A : Option Addr) (n c lo hi : Nat) (w : World) (hT : Pow10 w) (wk : (Lit.int .i64 k).wf = true) (hn : n ≤ 1048576) (hr : Rd w lo hi 4 A n (cLetter l)) (H : Hid (cLetterOk l)) : Calls Tryd.prog 21 #[.int .i64 k, .slice A n c] w (Says (.int .i64 (mForged k l)) w) := by
  have hmf : ∀ (fn : Fn) (first cap : Array Value) (w : World), (Instr.makeFunc fn first cap).run Tryd.prog w = .ok (.func fn first cap) w := fun _ _ _ _ => rfl
  have HB0 : Below w.heap.size w ((w.alloc (.cells #[.int .i64 k] 3)).alloc (.cells #[.func (.func 30) #[] (#[.pointer (some ⟨w.heap.size, 0, none⟩)])] 48)) := ((Below.refl _ _).alloc (Nat.le_refl _) _).alloc (by simp) _
  have hbc : BoxAt ((w.alloc (.cells #[.int .i64 k] 3)).alloc (.cells #[.func (.func 30) #[] (#[.pointer (some ⟨w.heap.size, 0, none⟩)])] 48)) (w.heap.size + 1) 48 #[.func (.func 30) #[] (#[.pointer (some ⟨w.heap.size, 0, none⟩)])] := by simpa using box_new (w.alloc (.cells #[.int .i64 k] 3)) 48 #[.func (.func 30) #[] (#[.pointer (some ⟨w.heap.size, 0, none⟩)])]
  have HC := Lib.hid (kForged.keep (fun x => !mGen k x) (#[.pointer (some ⟨w.heap.size, 0, none⟩)]) l A n c lo hi (w.heap.size + 1) ((w.alloc (.cells #[.int .i64 k] 3)).alloc (.cells #[.func (.func 30) #[] (#[.pointer (some ⟨w.heap.size, 0, none⟩)])] 48)) hn ((hr.alloc _).alloc _) hbc
    (clo_Forged k w.heap.size l ((w.alloc (.cells #[.int .i64 k] 3)).alloc (.cells #[.func (.func 30) #[] (#[.pointer (some ⟨w.heap.size, 0, none⟩)])] 48)) (pow10_below hT HB0) wk H ((box_new w 3 #[.int .i64 k]).alloc_ _)))
  replace HB0 := Lib.hid HB0
  have HL := rd_len TLetter.len hr (by decide)
  have HN := List.length_filter_le (fun x => !mGen k x) l
  unfold mForged
  clear hr hT wk hbc
  generalize (l.filter fun x => !mGen k x) = r at HC HN ⊢
  have hm : r.length ≤ 1048576 := by omega
  clear HN HL
  go_enter Tryd.func21, Tryd.ntmps21
  go_wp2_with fail
  refine HC.out.mono ?_
  rintro e w1 ⟨v, rfl, ho1, hb1⟩
  have HB1 := Lib.hid (below_trans HB0.out hb1 (Nat.le_refl _))
  obtain ⟨A', c', rfl, hF⟩ := fr_of_own ho1
  clear ho1 hb1 hF
  go_wp2_with fail
  go_ret
  exact ⟨rfl, HB1.out⟩

theorem cnt_step {p : TLetter → Bool} {l : List TLetter} {k : Nat} {x : TLetter} (h : l[k]? = some x) : ((l.take (k + 1)).filter p).length = ((l.take k).filter p).length + if p x = true then 1 else 0 := by
  rw [List.take_add_one, h, Option.toList_some, List.filter_append, List.length_append]
  by_cases hp : p x = true <;> simp [hp]
set_option maxHeartbeats 8000000 in
theorem spec_Forged (k : Int) (l : List TLetter) (A : Option Addr) (n c lo hi : Nat) (w : World) (hT : Pow10 w) (wk : (Lit.int .i64 k).wf = true) (hn : n ≤ 1048576) (hr : Rd w lo hi 4 A n (cLetter l)) (H : Hid (cLetterOk l)) : Calls Tryd.prog 20 #[.int .i64 k, .slice A n c] w (Says (.int .i64 (mForged k l)) w) := by
  have HL := Lib.hid (rd_len TLetter.len hr (by decide))
  have HR := Lib.hid hr
  have HTT := Lib.hid hT
  have HW := Lib.hid wk
  clear hr hT wk
  unfold mForged
  have HG := Lib.hid (fun x (hx : x ∈ l) W (hT : Pow10 W) => spec_IsGenuine k x W hT HW.out (Lib.hid (H.out x hx)))
  generalize hp : (fun x => !mGen k x) = p
  have HP := Lib.hid (show ∀ x, p x = !mGen k x by rw [← hp]; intro x; rfl)
  clear hp
  go_enter Tryd.func20, Tryd.ntmps20
  go_wp2_with fail
  go_loopg [5, 6] n (fun gg m i wr => ∃ (j s : Nat), j ≤ n ∧ n - j ≤ gg ∧ s ≤ j ∧ i = .int .i64 j ∧ m = .int .i64 s ∧ Hid (((l.take j).filter p).length = s) ∧ Hid (Below w.heap.size w wr))
  case atStart => exact ⟨0, 0, Nat.zero_le _, by omega, Nat.le_refl _, rfl, rfl, Lib.hid (by simp), Lib.hid (Below.refl _ _)⟩
  case round =>
    obtain ⟨j, s, hj, hg, hs, rfl, rfl, HS, HB⟩ := hrel
    by_cases hlt : j < n
    · obtain ⟨b, off, x, rfl, _, _, hz, hc⟩ := rd_elem TLetter.len (HR.out.new HB.out) HL.out hlt
      have c0 : wr.cell? ⟨b, off + j * 4, none⟩ = some (.int .i64 x.f0) := hc 0 _ rfl
      have c1 : wr.cell? ⟨b, off + j * 4 + 1, none⟩ = some (.int .i64 x.f1) := hc 1 _ rfl
      have c2 : wr.cell? ⟨b, off + j * 4 + 2, none⟩ = some (.int .i64 x.f2) := hc 2 _ rfl
      have c3 : wr.cell? ⟨b, off + j * 4 + 3, none⟩ = some (.int .i64 x.f3) := hc 3 _ rfl
      have C0 := HG.out x (mem_of_get hz)
      have hst := cnt_step (p := p) hz
      rw [HS.out, HP.out x] at hst
      clear hz hc
      generalize mGen k x = r at C0 hst
      replace C0 := Lib.hid C0
      replace hst := Lib.hid hst
      cases r
      · go_wp2_with fail
        refine Calls.mono (C0.out _ (pow10_below HTT.out HB.out)) ?_
        rintro e w1 ⟨rfl, hb1⟩
        have HB1 := Lib.hid (below_trans HB.out hb1 (Nat.le_refl _))
        clear hb1
        go_wp2_with fail
        go_roundg (n - (j + 1))
        case measure => omega
        case rel => exact ⟨j + 1, s + 1, by omega, by omega, by omega, by go_num, by go_num, Lib.hid (by simpa using hst.out), HB1⟩
      · go_wp2_with fail
        refine Calls.mono (C0.out _ (pow10_below HTT.out HB.out)) ?_
        rintro e w1 ⟨rfl, hb1⟩
        have HB1 := Lib.hid (below_trans HB.out hb1 (Nat.le_refl _))
        clear hb1
        go_wp2_with fail
        go_roundg (n - (j + 1))
        case measure => omega
        case rel => exact ⟨j + 1, s, by omega, by omega, by omega, by go_num, rfl, Lib.hid (by simpa using hst.out), HB1⟩
    · obtain rfl : j = n := by omega
      have HE := Lib.hid (show (l.filter p).length = s by have := HS.out; rwa [List.take_of_length_le (by have := HL.out; omega)] at this)
      go_wp2_with fail
      go_ret
      exact ⟨by rw [HE.out]; rfl, HB.out⟩
end Go.Proofs.YtjkkflgbjafjaaaDoor
