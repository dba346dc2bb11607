/- Forged, of the program and of the model. -/
import Derived.Test.YtlnmgfbfpjfddaaDoorGenuine
import Derived.Test.YtlnmgfbfpjfddaaDoorKForged
import Derived.Deep.LoopGhost
namespace Go.Proofs.YtlnmgfbfpjfddaaDoor
open Go Go.ChangeShapes Go.WideShapes Go.ChangeAt Go.RowKit Go.Lib
set_option linter.unusedVariables false
set_option linter.unusedSimpArgs false
set_option maxRecDepth 100000
def mForged (k : Int) (l : List TLetter) : Int := ((l.filter fun x => !mGen k x).length : Nat)
theorem clo_Forged (k : Int) (B : Nat) (l : List TLetter) (w0 : World) (hT : Pow10 w0) (wk : (Lit.int .i64 k).wf = true) (H : Hid (cLetterOk l)) (h0 : BoxAt w0 B 3 #[.int .i64 k]) :
    PredB Tryd.prog 76 #[.pointer (some ⟨B, 0, none⟩)] (fun x : TLetter => .agg #[.int .i64 x.f0, .int .i64 x.f1, .int .i64 x.f2, .int .i64 x.f3]) (fun x => !mGen k x) l w0 := fun w x hx hb => by
  have C0 := impl_IsGenuine k x (w.alloc (.cells #[.int .i64 x.f0, .int .i64 x.f1, .int .i64 x.f2, .int .i64 x.f3] 62)) (pow10_below (pow10_below hT hb) ((Below.refl _ _).alloc (Nat.le_refl _) _)) wk (Lib.hid (H.out x hx))
  have J := h0.new hb
  have hlt := J.lt
  have c0 : w.cell? ⟨B, 0, none⟩ = some (.int .i64 k) := J.at_ (j := 0) rfl
  clear h0 hb J hT wk
  change Calls Tryd.prog _ #[vLetter x, .pointer (some ⟨B, 0, none⟩)] _ (Says (.bool (!mGen k x)) w)
  generalize mGen k x = r at C0 ⊢
  replace C0 := Lib.hid C0
  cases r
  all_goals
    go_enter Tryd.func76, Tryd.ntmps76
    go_wp2_with fail
    refine Calls.mono C0.out ?_
    rintro e w1 ⟨rfl, hb1⟩
    have HB1 := Lib.hid (below_trans ((Below.refl _ _).alloc (Nat.le_refl _) _) hb1 (by simp))
    clear hb1
    go_wp2_with fail
    go_ret
    exact ⟨rfl, HB1.out⟩

set_option maxHeartbeats 8000000 in
theorem impl_Forged (k : Int) (l : List TLetter) (A : Option Addr) (n c lo hi : Nat) (w : World) (hT : Pow10 w) (wk : (Lit.int .i64 k).wf = true) (hn : n ≤ 1048576) (hr : Rd w lo hi 4 A n (cLetter l)) (H : Hid (cLetterOk l)) : Calls Tryd.prog 39 #[.int .i64 k, .slice A n c] w (Says (.int .i64 (mForged k l)) w) := by
  have hmf : ∀ (fn : Fn) (first cap : Array Value) (w : World), (Instr.makeFunc fn first cap).run Tryd.prog w = .ok (.func fn first cap) w := fun _ _ _ _ => rfl
  have HB0 : Below w.heap.size w ((w.alloc (.cells #[.int .i64 k] 3)).alloc (.cells #[.func (.func 76) #[] (#[.pointer (some ⟨w.heap.size, 0, none⟩)])] 110)) := ((Below.refl _ _).alloc (Nat.le_refl _) _).alloc (by simp) _
  have hbc : BoxAt ((w.alloc (.cells #[.int .i64 k] 3)).alloc (.cells #[.func (.func 76) #[] (#[.pointer (some ⟨w.heap.size, 0, none⟩)])] 110)) (w.heap.size + 1) 110 #[.func (.func 76) #[] (#[.pointer (some ⟨w.heap.size, 0, none⟩)])] := by simpa using box_new (w.alloc (.cells #[.int .i64 k] 3)) 110 #[.func (.func 76) #[] (#[.pointer (some ⟨w.heap.size, 0, none⟩)])]
  have HC := Lib.hid (kForged.keep (fun x => !mGen k x) (#[.pointer (some ⟨w.heap.size, 0, none⟩)]) l A n c lo hi (w.heap.size + 1) ((w.alloc (.cells #[.int .i64 k] 3)).alloc (.cells #[.func (.func 76) #[] (#[.pointer (some ⟨w.heap.size, 0, none⟩)])] 110)) hn ((hr.alloc _).alloc _) hbc
    (clo_Forged k w.heap.size l ((w.alloc (.cells #[.int .i64 k] 3)).alloc (.cells #[.func (.func 76) #[] (#[.pointer (some ⟨w.heap.size, 0, none⟩)])] 110)) (pow10_below hT HB0) wk H ((box_new w 3 #[.int .i64 k]).alloc_ _)))
  replace HB0 := Lib.hid HB0
  have HL := rd_len TLetter.len hr (by decide)
  have HN := List.length_filter_le (fun x => !mGen k x) l
  unfold mForged
  clear hr hT wk hbc
  generalize (l.filter fun x => !mGen k x) = r at HC HN ⊢
  have hm : r.length ≤ 1048576 := by omega
  clear HN HL
  go_enter Tryd.func39, Tryd.ntmps39
  go_wp2_with fail
  refine HC.out.mono ?_
  rintro e w1 ⟨v, rfl, ho1, hb1⟩
  have HB1 := Lib.hid (below_trans HB0.out hb1 (Nat.le_refl _))
  obtain ⟨A', c', rfl, hF⟩ := fr_of_own ho1
  clear ho1 hb1 hF
  go_wp2_with fail
  go_ret
  exact ⟨rfl, HB1.out⟩

theorem cnt_step {p : TLetter → Bool} {l : List TLetter} {k : Nat} {x : TLetter} (h : l[k]? = some x) : ((l.take (k + 1)).filter p).length = ((l.take k).filter p).length + if p x = true then 1 else 0 := by
  rw [List.take_add_one, h, Option.toList_some, List.filter_append, List.length_append]
  by_cases hp : p x = true <;> simp [hp]
end Go.Proofs.YtlnmgfbfpjfddaaDoor
