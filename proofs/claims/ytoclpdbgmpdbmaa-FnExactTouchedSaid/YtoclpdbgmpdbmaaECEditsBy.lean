/- EditsBy of the program. -/
import Derived.Test.YtoclpdbgmpdbmaaEAEditsBy
namespace Go.Proofs.Ytoclpdbgmpdbmaa
open Go Go.ChangeShapes Go.WideShapes Go.ChangeAt Go.RowKit Go.Lib
set_option linter.unusedVariables false
set_option linter.unusedSimpArgs false
set_option maxRecDepth 100000
theorem collect_EditsBy (xs : List TEdit) (A : Option Addr) (n c lo hi Bl Bk B : Nat) (a1 : Int) (w : World) (kl : BoxAt w Bl 36 #[.slice A n c]) (kk : BoxAt w Bk 162 #[.func (.func 115) #[] #[.pointer (some ⟨B, 0, none⟩)]]) (kb : BoxAt w B 3 #[.int .i64 a1]) (hr : Rd w lo hi 6 A n (cEdit xs)) (hhi : hi ≤ w.heap.size) (hn : n ≤ 1048576) :
    Calls Try.prog 170 #[.func (.func 174) #[] #[.pointer (some ⟨Bl, 0, none⟩), .pointer (some ⟨Bk, 0, none⟩)]] w fun e W' =>
      ∃ v, e = .returned v ∧ W'.ownsRow w.heap.size 107 6 v (xs.filter (fun x => x.f5 == a1)).length (cEdit (xs.filter (fun x => x.f5 == a1))) ∧ Below w.heap.size w W' := by
  have C0 := Lib.hid (callsIn_wide.1 (append_EditsBy 3 (Nat.le_refl _) xs A n c lo hi Bl Bk B a1 w kl kk kb hr hhi hn))
  clear kl kk kb hr
  go_enter Try.func170, Try.ntmps170
  go_wp2_with fail
  refine C0.out.mono ?_
  rintro e w1 ⟨v, rfl, ho, hb⟩
  have HO := Lib.hid ho
  have HB := Lib.hid hb
  clear ho hb
  go_wp2_with fail
  go_ret
  exact ⟨v, rfl, HO.out, HB.out⟩
theorem where_EditsBy (A : Option Addr) (n c B : Nat) (w : World) : Calls Try.prog 114 #[.slice A n c, .func (.func 115) #[] #[.pointer (some ⟨B, 0, none⟩)]] w fun e w' =>
    e = .returned (.func (.func 174) #[] #[.pointer (some ⟨w.heap.size, 0, none⟩), .pointer (some ⟨w.heap.size + 1, 0, none⟩)]) ∧ BoxAt w' w.heap.size 36 #[.slice A n c] ∧ BoxAt w' (w.heap.size + 1) 162 #[.func (.func 115) #[] #[.pointer (some ⟨B, 0, none⟩)]] ∧ Below w.heap.size w w' := by
  have hmf : ∀ (fn : Fn) (first cap : Array Value) (w : World), (Instr.makeFunc fn first cap).run Try.prog w = .ok (.func fn first cap) w := fun _ _ _ _ => rfl
  have K0 := Lib.hid (BoxAt.alloc_ (box_new w 36 #[.slice A n c]) (.cells #[.func (.func 115) #[] #[.pointer (some ⟨B, 0, none⟩)]] 162))
  have K1 := Lib.hid (show BoxAt ((w.alloc (.cells #[.slice A n c] 36)).alloc (.cells #[.func (.func 115) #[] #[.pointer (some ⟨B, 0, none⟩)]] 162)) (w.heap.size + 1) 162 #[.func (.func 115) #[] #[.pointer (some ⟨B, 0, none⟩)]] by have h := box_new (w.alloc (.cells #[.slice A n c] 36)) 162 #[.func (.func 115) #[] #[.pointer (some ⟨B, 0, none⟩)]]; simpa using h)
  have HB := Lib.hid (((Below.refl w.heap.size w).alloc (Nat.le_refl _) (.cells #[.slice A n c] 36)).alloc (by simp) (.cells #[.func (.func 115) #[] #[.pointer (some ⟨B, 0, none⟩)]] 162))
  go_enter Try.func114, Try.ntmps114
  go_wp2_with fail
  go_ret
  exact ⟨rfl, K0.out, K1.out, HB.out⟩
theorem maker_EditsBy (A : Option Addr) (n c : Nat) (a1 : Int) (w : World) : Calls Try.prog 71 #[.slice A n c, .int .i64 a1] w fun e w' => ∃ Bl Bk B : Nat,
    e = .returned (.func (.func 174) #[] #[.pointer (some ⟨Bl, 0, none⟩), .pointer (some ⟨Bk, 0, none⟩)]) ∧ BoxAt w' Bl 36 #[.slice A n c] ∧ BoxAt w' Bk 162 #[.func (.func 115) #[] #[.pointer (some ⟨B, 0, none⟩)]] ∧ BoxAt w' B 3 #[.int .i64 a1] ∧ Below w.heap.size w w' := by
  have hmf : ∀ (fn : Fn) (first cap : Array Value) (w : World), (Instr.makeFunc fn first cap).run Try.prog w = .ok (.func fn first cap) w := fun _ _ _ _ => rfl
  have C0 := Lib.hid (where_EditsBy A n c w.heap.size (w.alloc (.cells #[.int .i64 a1] 3)))
  have K0 := Lib.hid (box_new w 3 #[.int .i64 a1])
  go_enter Try.func71, Try.ntmps71
  go_wp2_with fail
  refine C0.out.mono ?_
  rintro e w1 ⟨rfl, h1, h2, hb⟩
  rw [World.size_alloc] at h1 h2
  have H1 := Lib.hid h1
  have H2 := Lib.hid h2
  have H3 := Lib.hid (K0.out.new hb)
  have HB := Lib.hid (below_trans ((Below.refl w.heap.size w).alloc (Nat.le_refl _) (.cells #[.int .i64 a1] 3)) hb (by simp))
  clear h1 h2 hb
  go_wp2_with fail
  go_ret
  exact ⟨_, _, _, rfl, H1.out, H2.out, H3.out, HB.out⟩
end Go.Proofs.Ytoclpdbgmpdbmaa
