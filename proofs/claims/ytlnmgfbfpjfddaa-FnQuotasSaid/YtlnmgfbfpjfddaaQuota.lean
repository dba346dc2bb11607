/- Quotas: how many rules of each extension. -/
import Derived.Test.YtlnmgfbfpjfddaaRulesOf
import Derived.Test.YtlnmgfbfpjfddaaRule
import Derived.Test.YtlnmgfbfpjfddaaMaxMin
import Derived.Test.YtlnmgfbfpjfddaaReg
import Derived.Test.YtlnmgfbfpjfddaaCell
import Derived.Deep.LoopGhost
namespace Go.Proofs.Ytlnmgfbfpjfddaa
open Go Go.ChangeShapes Go.WideShapes Go.ChangeAt Go.RowKit Go.Lib
set_option linter.unusedVariables false
set_option linter.unusedSimpArgs false
set_option maxRecDepth 100000
def mCnt (l : List TRule) (e : Int) : Nat := (l.filter fun x => x.f0 == e).length
def vQ (l : List TRule) : Array Value := #[.int .i64 0, .int .i64 (mCnt l 1 : Nat), .int .i64 (mCnt l 2 : Nat), .int .i64 (mCnt l 3 : Nat), .int .i64 (mCnt l 4 : Nat), .int .i64 (mCnt l 5 : Nat)]
def mRoom (l : List TRule) (ext : Int) : Int := if inR ext 1 5 = true then mMax 0 (mMin (6 - (mCnt l ext : Nat)) (20 - (l.length : Nat))) else 0
theorem cnt_le (l : List TRule) (e : Int) : mCnt l e ≤ l.length := List.length_filter_le _ _
theorem cnt_snoc {l : List TRule} {k : Nat} {x : TRule} (e : Int) (h : l[k]? = some x) : mCnt (l.take (k + 1)) e = mCnt (l.take k) e + if x.f0 = e then 1 else 0 := by
  unfold mCnt
  rw [List.take_add_one, h, Option.toList_some, List.filter_append, List.length_append]
  by_cases he : x.f0 = e <;> simp [he]
theorem q_no {l : List TRule} {k : Nat} {x : TRule} (h : l[k]? = some x) (hx : inR x.f0 1 5 = false) : vQ (l.take (k + 1)) = vQ (l.take k) := by
  have hne : ∀ e : Int, 1 ≤ e → e ≤ 5 → mCnt (l.take (k + 1)) e = mCnt (l.take k) e := fun e h1 h2 => by
    rw [cnt_snoc e h, if_neg (by intro he; subst he; simp [inR] at hx; omega)]; rfl
  unfold vQ
  rw [hne 1 (by decide) (by decide), hne 2 (by decide) (by decide), hne 3 (by decide) (by decide), hne 4 (by decide) (by decide), hne 5 (by decide) (by decide)]

theorem q_yes1 {l : List TRule} {k : Nat} {x : TRule} (h : l[k]? = some x) (hx : x.f0 = 1) : vQ (l.take (k + 1)) = (vQ (l.take k)).setIfInBounds 1 (.int .i64 ((mCnt (l.take k) 1 : Nat) + 1)) := by
  unfold vQ
  rw [cnt_snoc 1 h, cnt_snoc 2 h, cnt_snoc 3 h, cnt_snoc 4 h, cnt_snoc 5 h, hx]
  simp

theorem q_yes2 {l : List TRule} {k : Nat} {x : TRule} (h : l[k]? = some x) (hx : x.f0 = 2) : vQ (l.take (k + 1)) = (vQ (l.take k)).setIfInBounds 2 (.int .i64 ((mCnt (l.take k) 2 : Nat) + 1)) := by
  unfold vQ
  rw [cnt_snoc 1 h, cnt_snoc 2 h, cnt_snoc 3 h, cnt_snoc 4 h, cnt_snoc 5 h, hx]
  simp

theorem q_yes3 {l : List TRule} {k : Nat} {x : TRule} (h : l[k]? = some x) (hx : x.f0 = 3) : vQ (l.take (k + 1)) = (vQ (l.take k)).setIfInBounds 3 (.int .i64 ((mCnt (l.take k) 3 : Nat) + 1)) := by
  unfold vQ
  rw [cnt_snoc 1 h, cnt_snoc 2 h, cnt_snoc 3 h, cnt_snoc 4 h, cnt_snoc 5 h, hx]
  simp

theorem q_yes4 {l : List TRule} {k : Nat} {x : TRule} (h : l[k]? = some x) (hx : x.f0 = 4) : vQ (l.take (k + 1)) = (vQ (l.take k)).setIfInBounds 4 (.int .i64 ((mCnt (l.take k) 4 : Nat) + 1)) := by
  unfold vQ
  rw [cnt_snoc 1 h, cnt_snoc 2 h, cnt_snoc 3 h, cnt_snoc 4 h, cnt_snoc 5 h, hx]
  simp

theorem q_yes5 {l : List TRule} {k : Nat} {x : TRule} (h : l[k]? = some x) (hx : x.f0 = 5) : vQ (l.take (k + 1)) = (vQ (l.take k)).setIfInBounds 5 (.int .i64 ((mCnt (l.take k) 5 : Nat) + 1)) := by
  unfold vQ
  rw [cnt_snoc 1 h, cnt_snoc 2 h, cnt_snoc 3 h, cnt_snoc 4 h, cnt_snoc 5 h, hx]
  simp

set_option maxHeartbeats 40000000 in
theorem impl_quotaOf (l : List TRule) (A : Option Addr) (n c lo hi : Nat) (w : World) (hn : n ≤ 1048576) (hr : Rd w lo hi 8 A n (cRule l)) :
    Calls Try.prog 137 #[.slice A n c] w (Says (.agg (vQ l)) w) := by
  have HL := Lib.hid (rd_len TRule.len hr (by decide))
  have HR := Lib.hid hr
  clear hr
  have HQ0 := Lib.hid (show BoxAt ((w.alloc (.cells #[.int .i64 0, .int .i64 0, .int .i64 0, .int .i64 0, .int .i64 0, .int .i64 0] 161)).alloc (.cells #[.int .i64 0, .int .i64 0, .int .i64 0, .int .i64 0, .int .i64 0, .int .i64 0] 161)) (w.heap.size + 1) 161 (vQ (l.take 0)) by simpa [vQ, mCnt] using box_new (w.alloc (.cells #[.int .i64 0, .int .i64 0, .int .i64 0, .int .i64 0, .int .i64 0, .int .i64 0] 161)) 161 #[.int .i64 0, .int .i64 0, .int .i64 0, .int .i64 0, .int .i64 0, .int .i64 0])
  have HR00 := Lib.hid ((box_new w 161 #[.int .i64 0, .int .i64 0, .int .i64 0, .int .i64 0, .int .i64 0, .int .i64 0]).alloc_ (.cells #[.int .i64 0, .int .i64 0, .int .i64 0, .int .i64 0, .int .i64 0, .int .i64 0] 161))
  go_enter Try.func137, Try.ntmps137
  go_wp2_with fail
  go_loopg [8] n (fun gg i wr => ∃ k : Nat, k ≤ n ∧ n - k ≤ gg ∧ i = .int .i64 k ∧ Hid (BoxAt wr (w.heap.size + 1) 161 (vQ (l.take k))) ∧ Hid (BoxAt wr w.heap.size 161 #[.int .i64 0, .int .i64 0, .int .i64 0, .int .i64 0, .int .i64 0, .int .i64 0]) ∧ Hid (Below w.heap.size w wr))
  case atStart => exact ⟨0, Nat.zero_le _, by omega, rfl, HQ0, HR00, Lib.hid (((Below.refl _ _).alloc (Nat.le_refl _) _).alloc (by simp) _)⟩
  case round =>
    obtain ⟨k, hk, hg, rfl, HQ, HR0, HB⟩ := hrel
    by_cases hlt : k < n
    · obtain ⟨b, off, x, rfl, _, _, hz, hc⟩ := rd_elem TRule.len (HR.out.new HB.out) HL.out hlt
      have c0 : wr.cell? ⟨b, off + k * 8, none⟩ = some (.int .i64 x.f0) := hc 0 _ rfl
      have c1 : wr.cell? ⟨b, off + k * 8 + 1, none⟩ = some (.int .i64 x.f1) := hc 1 _ rfl
      have c2 : wr.cell? ⟨b, off + k * 8 + 2, none⟩ = some (.int .i64 x.f2) := hc 2 _ rfl
      have c3 : wr.cell? ⟨b, off + k * 8 + 3, none⟩ = some (.int .i64 x.f3) := hc 3 _ rfl
      have c4 : wr.cell? ⟨b, off + k * 8 + 4, none⟩ = some (.int .i64 x.f4) := hc 4 _ rfl
      have c5 : wr.cell? ⟨b, off + k * 8 + 5, none⟩ = some (.int .i64 x.f5) := hc 5 _ rfl
      have c6 : wr.cell? ⟨b, off + k * 8 + 6, none⟩ = some (.int .i64 x.f6) := hc 6 _ rfl
      have c7 : wr.cell? ⟨b, off + k * 8 + 7, none⟩ = some (.int .i64 x.f7) := hc 7 _ rfl
      have HZ := Lib.hid hz
      clear hz hc
      have hlq := HQ.out.lt
      have hsz := HB.out.size
      by_cases hx : inR x.f0 1 5 = true
      · have hxr : x.f0 = 1 ∨ x.f0 = 2 ∨ x.f0 = 3 ∨ x.f0 = 4 ∨ x.f0 = 5 := by simp [inR] at hx; omega
        have q1 : wr.cell? ⟨w.heap.size + 1, 1, none⟩ = some (.int .i64 (mCnt (l.take k) 1 : Nat)) := HQ.out.at_ (j := 1) rfl
        have g1 := HQ.out.free 1
        have q2 : wr.cell? ⟨w.heap.size + 1, 2, none⟩ = some (.int .i64 (mCnt (l.take k) 2 : Nat)) := HQ.out.at_ (j := 2) rfl
        have g2 := HQ.out.free 2
        have q3 : wr.cell? ⟨w.heap.size + 1, 3, none⟩ = some (.int .i64 (mCnt (l.take k) 3 : Nat)) := HQ.out.at_ (j := 3) rfl
        have g3 := HQ.out.free 3
        have q4 : wr.cell? ⟨w.heap.size + 1, 4, none⟩ = some (.int .i64 (mCnt (l.take k) 4 : Nat)) := HQ.out.at_ (j := 4) rfl
        have g4 := HQ.out.free 4
        have q5 : wr.cell? ⟨w.heap.size + 1, 5, none⟩ = some (.int .i64 (mCnt (l.take k) 5 : Nat)) := HQ.out.at_ (j := 5) rfl
        have g5 := HQ.out.free 5
        have hl0 : (l.take k).length ≤ 1048576 := Nat.le_trans (List.length_take_le _ _) (by omega)
        have b1 : ((mCnt (l.take k) 1 : Nat) : Int) ≤ 1048576 := by have := cnt_le (l.take k) 1; omega
        have b2 : ((mCnt (l.take k) 2 : Nat) : Int) ≤ 1048576 := by have := cnt_le (l.take k) 2; omega
        have b3 : ((mCnt (l.take k) 3 : Nat) : Int) ≤ 1048576 := by have := cnt_le (l.take k) 3; omega
        have b4 : ((mCnt (l.take k) 4 : Nat) : Int) ≤ 1048576 := by have := cnt_le (l.take k) 4; omega
        have b5 : ((mCnt (l.take k) 5 : Nat) : Int) ≤ 1048576 := by have := cnt_le (l.take k) 5; omega
        rcases hxr with hxe | hxe | hxe | hxe | hxe
        · have HE := Lib.hid (q_yes1 HZ.out hxe)
          rw [hxe] at c0
          have hx : inR 1 1 5 = true := rfl
          clear hxe 
          go_wp2_with (go_at_call 91; refine (impl_in _ _ _ _).mono ?_; rintro e w1 ⟨rfl, rfl⟩)
          go_roundg (n - (k + 1))
          case measure => omega
          case rel => exact ⟨k + 1, by omega, by omega, by go_num, Lib.hid (by rw [HE.out]; exact (bx_cell HQ.out).alloc_ _), Lib.hid ((bx_cell_far HR0.out (by omega)).alloc_ _), Lib.hid ((HB.out.setCell (by simp) _).alloc (by simp; omega) _)⟩
        · have HE := Lib.hid (q_yes2 HZ.out hxe)
          rw [hxe] at c0
          have hx : inR 2 1 5 = true := rfl
          clear hxe 
          go_wp2_with (go_at_call 91; refine (impl_in _ _ _ _).mono ?_; rintro e w1 ⟨rfl, rfl⟩)
          go_roundg (n - (k + 1))
          case measure => omega
          case rel => exact ⟨k + 1, by omega, by omega, by go_num, Lib.hid (by rw [HE.out]; exact (bx_cell HQ.out).alloc_ _), Lib.hid ((bx_cell_far HR0.out (by omega)).alloc_ _), Lib.hid ((HB.out.setCell (by simp) _).alloc (by simp; omega) _)⟩
        · have HE := Lib.hid (q_yes3 HZ.out hxe)
          rw [hxe] at c0
          have hx : inR 3 1 5 = true := rfl
          clear hxe 
          go_wp2_with (go_at_call 91; refine (impl_in _ _ _ _).mono ?_; rintro e w1 ⟨rfl, rfl⟩)
          go_roundg (n - (k + 1))
          case measure => omega
          case rel => exact ⟨k + 1, by omega, by omega, by go_num, Lib.hid (by rw [HE.out]; exact (bx_cell HQ.out).alloc_ _), Lib.hid ((bx_cell_far HR0.out (by omega)).alloc_ _), Lib.hid ((HB.out.setCell (by simp) _).alloc (by simp; omega) _)⟩
        · have HE := Lib.hid (q_yes4 HZ.out hxe)
          rw [hxe] at c0
          have hx : inR 4 1 5 = true := rfl
          clear hxe 
          go_wp2_with (go_at_call 91; refine (impl_in _ _ _ _).mono ?_; rintro e w1 ⟨rfl, rfl⟩)
          go_roundg (n - (k + 1))
          case measure => omega
          case rel => exact ⟨k + 1, by omega, by omega, by go_num, Lib.hid (by rw [HE.out]; exact (bx_cell HQ.out).alloc_ _), Lib.hid ((bx_cell_far HR0.out (by omega)).alloc_ _), Lib.hid ((HB.out.setCell (by simp) _).alloc (by simp; omega) _)⟩
        · have HE := Lib.hid (q_yes5 HZ.out hxe)
          rw [hxe] at c0
          have hx : inR 5 1 5 = true := rfl
          clear hxe 
          go_wp2_with (go_at_call 91; refine (impl_in _ _ _ _).mono ?_; rintro e w1 ⟨rfl, rfl⟩)
          go_roundg (n - (k + 1))
          case measure => omega
          case rel => exact ⟨k + 1, by omega, by omega, by go_num, Lib.hid (by rw [HE.out]; exact (bx_cell HQ.out).alloc_ _), Lib.hid ((bx_cell_far HR0.out (by omega)).alloc_ _), Lib.hid ((HB.out.setCell (by simp) _).alloc (by simp; omega) _)⟩
      · have hx : inR x.f0 1 5 = false := by simpa using hx
        have HE := Lib.hid (q_no HZ.out hx)
        go_wp2_with (go_at_call 91; refine (impl_in _ _ _ _).mono ?_; rintro e w1 ⟨rfl, rfl⟩)
        go_roundg (n - (k + 1))
        case measure => omega
        case rel => exact ⟨k + 1, by omega, by omega, by go_num, Lib.hid (by rw [HE.out]; exact HQ.out.alloc_ _), Lib.hid (HR0.out.alloc_ _), Lib.hid (HB.out.alloc hsz _)⟩
    · obtain rfl : k = n := by omega
      have HE := Lib.hid (show l.take k = l from List.take_of_length_le (by have := HL.out; omega))
      have HQ2 := Lib.hid (show BoxAt wr (w.heap.size + 1) 161 (vQ l) by have := HQ.out; rwa [HE.out] at this)
      have q0 : wr.cell? ⟨w.heap.size + 1, 0, none⟩ = some (.int .i64 0) := HQ2.out.at_ (j := 0) rfl
      have q1 : wr.cell? ⟨w.heap.size + 1, 1, none⟩ = some (.int .i64 (mCnt l 1 : Nat)) := HQ2.out.at_ (j := 1) rfl
      have q2 : wr.cell? ⟨w.heap.size + 1, 2, none⟩ = some (.int .i64 (mCnt l 2 : Nat)) := HQ2.out.at_ (j := 2) rfl
      have q3 : wr.cell? ⟨w.heap.size + 1, 3, none⟩ = some (.int .i64 (mCnt l 3 : Nat)) := HQ2.out.at_ (j := 3) rfl
      have q4 : wr.cell? ⟨w.heap.size + 1, 4, none⟩ = some (.int .i64 (mCnt l 4 : Nat)) := HQ2.out.at_ (j := 4) rfl
      have q5 : wr.cell? ⟨w.heap.size + 1, 5, none⟩ = some (.int .i64 (mCnt l 5 : Nat)) := HQ2.out.at_ (j := 5) rfl
      go_wp2_with (refine wpList_store_row rfl 161 _ _ rfl w.heap.size (vQ l) rfl rfl 161 _ HR0.out (by kernel_rfl) (by kernel_rfl) (by kernel_rfl) ?_)
      have k0 : (wr.setRow w.heap.size (vQ l)).cell? ⟨w.heap.size, 0, none⟩ = some (.int .i64 0) := (box_row (cs := vQ l) HR0.out).at_ (j := 0) rfl
      have k1 : (wr.setRow w.heap.size (vQ l)).cell? ⟨w.heap.size, 1, none⟩ = some (.int .i64 (mCnt l 1 : Nat)) := (box_row (cs := vQ l) HR0.out).at_ (j := 1) rfl
      have k2 : (wr.setRow w.heap.size (vQ l)).cell? ⟨w.heap.size, 2, none⟩ = some (.int .i64 (mCnt l 2 : Nat)) := (box_row (cs := vQ l) HR0.out).at_ (j := 2) rfl
      have k3 : (wr.setRow w.heap.size (vQ l)).cell? ⟨w.heap.size, 3, none⟩ = some (.int .i64 (mCnt l 3 : Nat)) := (box_row (cs := vQ l) HR0.out).at_ (j := 3) rfl
      have k4 : (wr.setRow w.heap.size (vQ l)).cell? ⟨w.heap.size, 4, none⟩ = some (.int .i64 (mCnt l 4 : Nat)) := (box_row (cs := vQ l) HR0.out).at_ (j := 4) rfl
      have k5 : (wr.setRow w.heap.size (vQ l)).cell? ⟨w.heap.size, 5, none⟩ = some (.int .i64 (mCnt l 5 : Nat)) := (box_row (cs := vQ l) HR0.out).at_ (j := 5) rfl
      exact bodyPost_ret (v := .agg #[.int .i64 0, .int .i64 (mCnt l 1 : Nat), .int .i64 (mCnt l 2 : Nat), .int .i64 (mCnt l 3 : Nat), .int .i64 (mCnt l 4 : Nat), .int .i64 (mCnt l 5 : Nat)]) (by simp [results, Try.results137, go_sem, k0, k1, k2, k3, k4, k5]) rfl ⟨rfl, below_setRow HB.out (Nat.le_refl _) _⟩
end Go.Proofs.Ytlnmgfbfpjfddaa
