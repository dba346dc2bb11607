/- TracesOf of the program. No condition of its own. -/
import Derived.Test.YtfhoemgpilpapaaHold
import Derived.Deep.LoopGhost
namespace Go.Proofs.Ytfhoemgpilpapaa
open Go Go.ChangeShapes Go.WideShapes Go.ChangeAt Go.RowKit Go.Lib
set_option linter.unusedVariables false
set_option linter.unusedSimpArgs false
set_option maxRecDepth 100000
set_option maxHeartbeats 4000000
def trS (m : MBrowser) (a : Int) (k : Nat) : Nat := ((List.range k).map fun j => ((mHold m j).filter fun z => z == a).length).sum
theorem trS_succ (m : MBrowser) (a : Int) (k : Nat) : trS m a (k + 1) = trS m a k + ((mHold m k).filter fun z => z == a).length := by
  unfold trS
  rw [List.range_succ, List.map_append, List.sum_append]
  simp
theorem trS_le (m : MBrowser) (a : Int) (hz : m.sz ≤ 1048576) : ∀ k, trS m a k ≤ k * 1048576
  | 0 => by simp [trS]
  | k + 1 => by
    rw [trS_succ]
    have h1 := trS_le m a hz k
    have h2 := Nat.le_trans (List.length_filter_le (fun z => z == a) (mHold m k)) (mHold_len m k)
    omega
def mTraces (m : MBrowser) (a : Int) : Int := (trS m a 5 : Int)
set_option maxHeartbeats 8000000 in
theorem impl_TracesOf (x : DBrowser) (m : MBrowser) (lo hi : Nat) (a : Int) (w : World) (hd : x.dat = m) (hz : m.sz ≤ 1048576) (hok : m.ok) (hr : x.rd w lo hi) (wfa : (Lit.int .i64 a).wf = true) :
    Calls Try.prog 27 #[.agg #[.int .i64 x.p0, .slice x.A1 x.n1 x.c1, .slice x.A2 x.n2 x.c2, .slice x.A3 x.n3 x.c3, .slice x.A4 x.n4 x.c4, .slice x.A5 x.n5 x.c5, .slice x.A6 x.n6 x.c6, .int .i64 x.p7], .int .i64 a] w (Says (.int .i64 (mTraces m a)) w) := by
  have C0 := Lib.hid (fun k W (hk : k < 5) h => impl_holders x m lo hi k W hd hz hok h hk)
  have C1 := Lib.hid (fun k (A : Option Addr) c lo hi W h => impl_countOf (mHold m k) A (mHold m k).length c lo hi a W (Nat.le_trans (mHold_len m k) hz) h)
  have HS := Lib.hid (fun k => trS_succ m a k)
  have HLe := Lib.hid (fun k => trS_le m a hz k)
  have HCl := Lib.hid (fun k => Nat.le_trans (List.length_filter_le (fun z => z == a) (mHold m k)) (Nat.le_trans (mHold_len m k) hz))
  unfold mTraces
  have HR := Lib.hid hr
  generalize trS m a = T at HS HLe ⊢
  obtain ⟨Cn, hCn⟩ : ∃ Cn : Nat → Nat, Cn = fun k => ((mHold m k).filter fun z => z == a).length := ⟨_, rfl⟩
  have C2 : Hid (∀ k (A : Option Addr) c lo hi W, Rd W lo hi 1 A (mHold m k).length (i64s (mHold m k)) → Calls Try.prog 72 #[.slice A (mHold m k).length c, .int .i64 a] W (Says (.int .i64 (Cn k : Int)) W)) := by subst hCn; exact C1
  have HS2 : Hid (∀ k, T (k + 1) = T k + Cn k) := by subst hCn; exact HS
  have HC2 : Hid (∀ k, Cn k ≤ 1048576) := by subst hCn; exact HCl
  have HT0 : T 0 ≤ 0 := HLe.out 0
  generalize mHold m = M at C0 C2
  clear hr hz hok hd wfa C1 HS HCl hCn
  have KB0 := Lib.hid (box_new w 40 #[.int .i64 x.p0, .slice x.A1 x.n1 x.c1, .slice x.A2 x.n2 x.c2, .slice x.A3 x.n3 x.c3, .slice x.A4 x.n4 x.c4, .slice x.A5 x.n5 x.c5, .slice x.A6 x.n6 x.c6, .int .i64 x.p7])
  go_enter Try.func27, Try.ntmps27
  go_wp2_with fail
  go_loopg [5, 7] 5 (fun gg s i wr => ∃ k : Nat, k ≤ 5 ∧ 5 - k ≤ gg ∧ i = .int .i64 k ∧ s = .int .i64 (T k : Int) ∧ Hid (BoxAt wr w.heap.size 40 #[.int .i64 x.p0, .slice x.A1 x.n1 x.c1, .slice x.A2 x.n2 x.c2, .slice x.A3 x.n3 x.c3, .slice x.A4 x.n4 x.c4, .slice x.A5 x.n5 x.c5, .slice x.A6 x.n6 x.c6, .int .i64 x.p7]) ∧ Hid (Below w.heap.size w wr))
  case atStart => exact ⟨0, Nat.zero_le _, by omega, rfl, by (congr 1; omega), KB0, Lib.hid ((Below.refl _ _).alloc (Nat.le_refl _) _)⟩
  case round =>
    obtain ⟨k, hk, hg, rfl, rfl, KB, HB⟩ := hrel
    by_cases hlt : k < 5
    · have hTk : T k ≤ 5242880 := by have := HLe.out k; omega
      have hCk : Cn k ≤ 1048576 := HC2.out k
      have HQ := Lib.hid (C0.out k wr hlt (HR.out.new HB.out))
      have HSk := Lib.hid (HS2.out k)
      have C3 := Lib.hid (C2.out k)
      have k0 : wr.cell? ⟨w.heap.size, 0, none⟩ = some (.int .i64 x.p0) := KB.out.at_ rfl
      have k1 : wr.cell? ⟨w.heap.size, 1, none⟩ = some (.slice x.A1 x.n1 x.c1) := KB.out.at_ rfl
      have k2 : wr.cell? ⟨w.heap.size, 2, none⟩ = some (.slice x.A2 x.n2 x.c2) := KB.out.at_ rfl
      have k3 : wr.cell? ⟨w.heap.size, 3, none⟩ = some (.slice x.A3 x.n3 x.c3) := KB.out.at_ rfl
      have k4 : wr.cell? ⟨w.heap.size, 4, none⟩ = some (.slice x.A4 x.n4 x.c4) := KB.out.at_ rfl
      have k5 : wr.cell? ⟨w.heap.size, 5, none⟩ = some (.slice x.A5 x.n5 x.c5) := KB.out.at_ rfl
      have k6 : wr.cell? ⟨w.heap.size, 6, none⟩ = some (.slice x.A6 x.n6 x.c6) := KB.out.at_ rfl
      have k7 : wr.cell? ⟨w.heap.size, 7, none⟩ = some (.int .i64 x.p7) := KB.out.at_ rfl
      generalize M k = L at HQ C3
      generalize Cn k = cn at C3 HSk hCk
      generalize T k = tk at HSk hTk
      go_wp2_with (first | (go_at_call 50; refine Calls.mono HQ.out ?_; rintro e w1 ⟨A1, c1, rfl, hf1, hb1⟩; (have KB1 := Lib.hid (KB.out.new hb1)); (have HB1 := Lib.hid (below_trans HB.out hb1 (Nat.le_refl _))); (have HF1 := Lib.hid hf1.rd); clear hb1 hf1 k0 k1 k2 k3 k4 k5 k6 k7) | (go_at_call 72; refine Calls.mono (C3.out A1 c1 _ _ _ HF1.out) ?_; rintro e w2 ⟨rfl, hb2⟩; (have KB2 := Lib.hid (KB1.out.new hb2)); (have HB2 := Lib.hid (below_trans HB1.out hb2 (Nat.le_refl _))); clear hb2))
      go_roundg (5 - (k + 1))
      case measure => omega
      case rel => exact ⟨k + 1, by omega, by omega, by go_num, by rw [HSk.out]; first | go_num | (congr 1; push_cast; omega), KB2, HB2⟩
    · obtain rfl : k = 5 := by omega
      go_wp2_with fail
      go_ret
      exact ⟨rfl, HB.out⟩

end Go.Proofs.Ytfhoemgpilpapaa
