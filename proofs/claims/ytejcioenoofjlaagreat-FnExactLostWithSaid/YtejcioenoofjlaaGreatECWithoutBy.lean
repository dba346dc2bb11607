/- WithoutBy of the program. -/
import Derived.Test.YtejcioenoofjlaaGreatEAWithoutBy
namespace Go.Proofs.YtejcioenoofjlaaGreat
open Go Go.ChangeShapes Go.WideShapes Go.ChangeAt Go.RowKit Go.Lib
set_option linter.unusedVariables false
set_option linter.unusedSimpArgs false
set_option maxRecDepth 100000
theorem where_WithoutBy (A : Option Addr) (n c B : Nat) (w : World) : Calls Tryz.prog 44 #[.slice A n c, .func (.func 45) #[] #[.pointer (some ⟨B, 0, none⟩)]] w fun e w' =>
    e = .returned (.func (.func 54) #[] #[.pointer (some ⟨w.heap.size, 0, none⟩), .pointer (some ⟨w.heap.size + 1, 0, none⟩)]) ∧ BoxAt w' w.heap.size 30 #[.slice A n c] ∧ BoxAt w' (w.heap.size + 1) 70 #[.func (.func 45) #[] #[.pointer (some ⟨B, 0, none⟩)]] ∧ Below w.heap.size w w' := by
  have hmf : ∀ (fn : Fn) (first cap : Array Value) (w : World), (Instr.makeFunc fn first cap).run Tryz.prog w = .ok (.func fn first cap) w := fun _ _ _ _ => rfl
  have K0 := Lib.hid (BoxAt.alloc_ (box_new w 30 #[.slice A n c]) (.cells #[.func (.func 45) #[] #[.pointer (some ⟨B, 0, none⟩)]] 70))
  have K1 := Lib.hid (show BoxAt ((w.alloc (.cells #[.slice A n c] 30)).alloc (.cells #[.func (.func 45) #[] #[.pointer (some ⟨B, 0, none⟩)]] 70)) (w.heap.size + 1) 70 #[.func (.func 45) #[] #[.pointer (some ⟨B, 0, none⟩)]] by have h := box_new (w.alloc (.cells #[.slice A n c] 30)) 70 #[.func (.func 45) #[] #[.pointer (some ⟨B, 0, none⟩)]]; simpa using h)
  have HB := Lib.hid (((Below.refl w.heap.size w).alloc (Nat.le_refl _) (.cells #[.slice A n c] 30)).alloc (by simp) (.cells #[.func (.func 45) #[] #[.pointer (some ⟨B, 0, none⟩)]] 70))
  go_enter Tryz.func44, Tryz.ntmps44
  go_wp2_with fail
  go_ret
  exact ⟨rfl, K0.out, K1.out, HB.out⟩
theorem maker_WithoutBy (A : Option Addr) (n c : Nat) (a1 : Int) (w : World) : Calls Tryz.prog 34 #[.slice A n c, .int .i64 a1] w fun e w' => ∃ Bl Bk B : Nat,
    e = .returned (.func (.func 54) #[] #[.pointer (some ⟨Bl, 0, none⟩), .pointer (some ⟨Bk, 0, none⟩)]) ∧ BoxAt w' Bl 30 #[.slice A n c] ∧ BoxAt w' Bk 70 #[.func (.func 45) #[] #[.pointer (some ⟨B, 0, none⟩)]] ∧ BoxAt w' B 3 #[.int .i64 a1] ∧ Below w.heap.size w w' := by
  have hmf : ∀ (fn : Fn) (first cap : Array Value) (w : World), (Instr.makeFunc fn first cap).run Tryz.prog w = .ok (.func fn first cap) w := fun _ _ _ _ => rfl
  have C0 := Lib.hid (where_WithoutBy A n c w.heap.size (w.alloc (.cells #[.int .i64 a1] 3)))
  have K0 := Lib.hid (box_new w 3 #[.int .i64 a1])
  go_enter Tryz.func34, Tryz.ntmps34
  go_wp2_with fail
  refine C0.out.mono ?_
  rintro e w1 ⟨rfl, h1, h2, hb⟩
  rw [World.size_alloc] at h1 h2
  have H1 := Lib.hid h1
  have H2 := Lib.hid h2
  have H3 := Lib.hid (K0.out.new hb)
  have HB := Lib.hid (below_trans ((Below.refl w.heap.size w).alloc (Nat.le_refl _) (.cells #[.int .i64 a1] 3)) hb (by simp))
  clear h1 h2 hb
  go_wp2_with fail
  go_ret
  exact ⟨_, _, _, rfl, H1.out, H2.out, H3.out, HB.out⟩
end Go.Proofs.YtejcioenoofjlaaGreat
