/- IsAllowed, of the program and of the model, answer whether some grant of the list covers the act. -/
import Derived.Test.YtfceddgacefejaaGrant
import Derived.Test.YtfceddgacefejaaFAllowed
namespace Go.Proofs.Ytfceddgacefejaa
open Go Go.ChangeShapes Go.WideShapes Go.ChangeAt Go.RowKit Go.Lib
set_option linter.unusedVariables false
set_option linter.unusedSimpArgs false
set_option maxRecDepth 100000
def mAllowed (l : List TGrant) (ext : Int) (s : TSite) (kind tick : Int) (clicked : Bool) : Bool := l.any fun g => mCovers g ext s kind tick clicked
set_option maxHeartbeats 4000000 in
theorem clo_Allowed (ext : Int) (s : TSite) (kind tick : Int) (clicked : Bool) (B : Nat) (l : List TGrant) (w : World) (h0 : w.cell? ⟨B, 0, none⟩ = some (.int .i64 ext)) (h1 : w.cell? ⟨B + 1, 0, none⟩ = some (.int .i64 s.f0)) (h2 : w.cell? ⟨B + 1, 1, none⟩ = some (.int .i64 s.f1))
  (h3 : w.cell? ⟨B + 2, 0, none⟩ = some (.int .i64 kind)) (h4 : w.cell? ⟨B + 3, 0, none⟩ = some (.int .i64 tick)) (h5 : w.cell? ⟨B + 4, 0, none⟩ = some (.bool clicked)) :
  PredB Try.prog 99 #[.pointer (some ⟨B, 0, none⟩), .pointer (some ⟨B + 1, 0, none⟩), .pointer (some ⟨B + 2, 0, none⟩), .pointer (some ⟨B + 3, 0, none⟩), .pointer (some ⟨B + 4, 0, none⟩)] vGrant
   (fun g => mCovers g ext s kind tick clicked) l w := fun W x _ hb => by
 have c0 := cell_nw hb h0
 have c1 := cell_nw hb h1
 have c2 := cell_nw hb h2
 have c3 := cell_nw hb h3
 have c4 := cell_nw hb h4
 have c5 := cell_nw hb h5
 have HC := fun W' => impl_Covers x ext s kind tick clicked W'
 have m0 : B < W.heap.size := World.block_lt_of_cell? _ _ c0
 have n0 : B ≠ W.heap.size := Nat.ne_of_lt m0
 have m1 : B + 1 < W.heap.size := World.block_lt_of_cell? _ _ c1
 have n1 : B + 1 ≠ W.heap.size := Nat.ne_of_lt m1
 have m2 : B + 2 < W.heap.size := World.block_lt_of_cell? _ _ c3
 have n2 : B + 2 ≠ W.heap.size := Nat.ne_of_lt m2
 have m3 : B + 3 < W.heap.size := World.block_lt_of_cell? _ _ c4
 have n3 : B + 3 ≠ W.heap.size := Nat.ne_of_lt m3
 have m4 : B + 4 < W.heap.size := World.block_lt_of_cell? _ _ c5
 have n4 : B + 4 ≠ W.heap.size := Nat.ne_of_lt m4
 clear h0 h1 h2 h3 h4 h5 hb
 change Calls Try.prog _ #[vGrant x, .pointer (some ⟨B, 0, none⟩), .pointer (some ⟨B + 1, 0, none⟩), .pointer (some ⟨B + 2, 0, none⟩), .pointer (some ⟨B + 3, 0, none⟩), .pointer (some ⟨B + 4, 0, none⟩)] _ _
 go_enter Try.func99, Try.ntmps99
 go_wp2_with fail
 refine (HC _).mono ?_
 rintro e w1 ⟨rfl, hb1⟩
 have HB1 := Lib.hid hb1
 clear hb1 HC
 go_wp2_with fail
 go_ret
 exact ⟨rfl, below_step ((Below.refl _ _).alloc (Nat.le_refl _) _) HB1 (by simp)⟩
set_option maxHeartbeats 4000000 in
theorem impl_IsAllowed (l : List TGrant) (A : Option Addr) (n c lo hi : Nat) (ext : Int) (s : TSite) (kind tick : Int) (clicked : Bool) (w : World) (hn : n ≤ 1048576) (hr : Rd w lo hi 7 A n (cGrant l)) (H : Hid (cGrantOk l)) :
  Calls Try.prog 18 #[.slice A n c, .int .i64 ext, vSite s, .int .i64 kind, .int .i64 tick, .bool clicked] w (Says (.bool (mAllowed l ext s kind tick clicked)) w) := by
 have hmf : ∀ (fn : Fn) (first cap : Array Value) (w : World), (Instr.makeFunc fn first cap).run Try.prog w = .ok (.func fn first cap) w := fun _ _ _ _ => rfl
 have HC := Lib.hid (fun W h0 h1 h2 h3 h4 h5 hr => contains_Allowed (fun g => mCovers g ext s kind tick clicked) _ l A n c lo hi W (by omega) hr (clo_Allowed ext s kind tick clicked w.heap.size l W h0 h1 h2 h3 h4 h5))
 have HR := Lib.hid hr
 unfold mAllowed
 generalize (l.any fun g => mCovers g ext s kind tick clicked) = r at HC ⊢
 clear hr
 go_enter Try.func18, Try.ntmps18
 go_wp2_with fail
 refine Calls.mono (HC.out _ ?a0 ?a1 ?a2 ?a3 ?a4 ?a5 (((((HR.out.alloc _).alloc _).alloc _).alloc _).alloc _)) ?_
 case a0 => repeat (first | (with_reducible refine cell_newest (by simp) rfl) | (with_reducible refine cell_al ?_))
 case a1 => repeat (first | (with_reducible refine cell_newest (by simp) rfl) | (with_reducible refine cell_al ?_))
 case a2 => repeat (first | (with_reducible refine cell_newest (by simp) rfl) | (with_reducible refine cell_al ?_))
 case a3 => repeat (first | (with_reducible refine cell_newest (by simp) rfl) | (with_reducible refine cell_al ?_))
 case a4 => repeat (first | (with_reducible refine cell_newest (by simp) rfl) | (with_reducible refine cell_al ?_))
 case a5 => repeat (first | (with_reducible refine cell_newest (by simp) rfl) | (with_reducible refine cell_al ?_))
 rintro e w1 ⟨rfl, hb1⟩
 have HB1 := Lib.hid hb1
 clear hb1
 go_wp2_with fail
 go_ret
 exact ⟨rfl, below_step ((((((Below.refl _ _).alloc (Nat.le_refl _) _).alloc (by simp) _).alloc (by simp <;> omega) _).alloc (by simp <;> omega) _).alloc (by simp <;> omega) _) HB1 (by simp <;> omega)⟩
set_option maxHeartbeats 4000000 in
theorem spec_IsAllowed (l : List TGrant) (A : Option Addr) (n c lo hi : Nat) (ext : Int) (s : TSite) (kind tick : Int) (clicked : Bool) (w : World) (hn : n ≤ 1048576) (hr : Rd w lo hi 7 A n (cGrant l)) (H : Hid (cGrantOk l)) :
  Calls Try.prog 19 #[.slice A n c, .int .i64 ext, vSite s, .int .i64 kind, .int .i64 tick, .bool clicked] w (Says (.bool (mAllowed l ext s kind tick clicked)) w) := by
 have HL := Lib.hid (rd_len TGrant.len hr (by decide))
 have HR := Lib.hid hr
 clear hr
 unfold mAllowed
 generalize hp : (fun g => mCovers g ext s kind tick clicked) = p
 have HP : Hid ((fun g => mCovers g ext s kind tick clicked) = p) := Lib.hid hp
 clear hp
 have HBx := Lib.hid (box_new w 27 #[.int .i64 s.f0, .int .i64 s.f1])
 go_enter Try.func19, Try.ntmps19
 go_wp2_with fail
 go_loopg [13] n (fun gg i wr => ∃ k : Nat, k ≤ n ∧ n - k ≤ gg ∧ i = .int .i64 k ∧ Hid (Below w.heap.size w wr) ∧ Hid (BoxAt wr w.heap.size 27 #[.int .i64 s.f0, .int .i64 s.f1]) ∧ Hid ((l.take k).any p = false))
 case atStart => exact ⟨0, Nat.zero_le _, by omega, rfl, Lib.hid ((Below.refl _ _).alloc (Nat.le_refl _) _), HBx, Lib.hid (by simp)⟩
 case round =>
  obtain ⟨k, hk, hg, rfl, HB, HX, HF⟩ := hrel
  by_cases hlt : k < n
  ·
   obtain ⟨b, off, x, rfl, _, _, hz, hc⟩ := rd_elem TGrant.len (HR.out.new HB.out) HL.out hlt
   have c0 : wr.cell? ⟨b, off + k * 7, none⟩ = _ := hc 0 _ rfl
   have c1 := hc 1 _ rfl
   have c2 := hc 2 _ rfl
   have c3 := hc 3 _ rfl
   have c4 := hc 4 _ rfl
   have c5 := hc 5 _ rfl
   have c6 := hc 6 _ rfl
   have d0 : wr.cell? ⟨w.heap.size, 0, none⟩ = some (.int .i64 s.f0) := HX.out.at_ rfl
   have d1 : wr.cell? ⟨w.heap.size, 1, none⟩ = some (.int .i64 s.f1) := HX.out.at_ rfl
   have HZ := Lib.hid hz
   have HB2 := Lib.hid HB.out.drew
   have HC := Lib.hid (fun W' => spec_Covers x ext s kind tick clicked W')
   have HPx := Lib.hid (show mCovers x ext s kind tick clicked = p x by rw [← HP.out])
   clear hc hz
   generalize mCovers x ext s kind tick clicked = r at HC HPx
   cases r with
   | true =>
    have HE := Lib.hid (show l.any p = true from List.any_eq_true.2 ⟨x, mem_of_get HZ.out, HPx.out.symm⟩)
    go_wp2_with fail
    go_still_tail 9, (by kernel_rfl)
    change wpList _ _ _ _ _ wr.drew
    generalize wr.drew = w2 at HB2 ⊢
    go_wp2_with fail
    refine (HC.out _).mono ?_
    rintro e w1 ⟨rfl, hb1⟩
    have HB1 := Lib.hid (below_trans HB2.out hb1 (Nat.le_refl _))
    clear hb1
    go_wp2_with fail
    go_ret
    exact ⟨by rw [HE.out]; rfl, HB1.out⟩
   | false =>
    have HE := Lib.hid (any_step HF.out HZ.out HPx.out.symm)
    have HX2 := Lib.hid (show BoxAt wr.drew w.heap.size 27 #[.int .i64 s.f0, .int .i64 s.f1] from HX.out)
    go_wp2_with fail
    go_still_tail 9, (by kernel_rfl)
    change wpList _ _ _ _ _ wr.drew
    generalize wr.drew = w2 at HB2 HX2 ⊢
    go_wp2_with fail
    refine (HC.out _).mono ?_
    rintro e w1 ⟨rfl, hb1⟩
    have HB1 := Lib.hid (below_trans HB2.out hb1 (Nat.le_refl _))
    have HX1 := Lib.hid (HX2.out.new hb1)
    clear hb1
    go_wp2_with fail
    go_roundg (n - (k + 1))
    case measure => omega
    case rel => exact ⟨k + 1, by omega, by omega, by go_num, HB1, HX1, HE⟩
  ·
   obtain rfl : k = n := by omega
   have HE := Lib.hid (show l.any p = false by have := HF.out; rw [List.take_of_length_le (by have := HL.out; omega)] at this; exact this)
   go_wp2_with fail
   go_ret
   exact ⟨by rw [HE.out]; rfl, HB.out⟩
end Go.Proofs.Ytfceddgacefejaa
