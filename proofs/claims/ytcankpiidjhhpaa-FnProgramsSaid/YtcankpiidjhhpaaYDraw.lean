/- Draw, what is needed of it. -/
import Derived.Test.YtcankpiidjhhpaaYFrame
import Derived.WalkLawsBesides
import Derived.BigQuiet
import Derived.Deep.QuietTactic
import Derived.Outline
namespace Go.Proofs.Ytcankpiidjhhpaa
open Go Go.ChangeShapes Go.WideShapes Go.ChangeAt Go.RowKit Go.Lib
set_option maxRecDepth 100000

/-- n bytes are read from A on, all below block B. -/
def BytesAt (w : World) (B : Nat) (A : Option Addr) (n : Nat) : Prop :=
  0 < n → ∃ (b off : Nat) (z : Nat → Int), A = some ⟨b, off, none⟩ ∧ b < B ∧ ∀ k, k < n → 0 ≤ z k ∧ z k ≤ 255 ∧ w.cell? ⟨b, off + k, none⟩ = some (.int .u8 (z k))

theorem BytesAt.keep {w w' : World} {B n : Nat} {A : Option Addr} (h : BytesAt w B A n) (hk : ∀ b, b < B → w'.heap[b]? = w.heap[b]?) : BytesAt w' B A n := fun hn => by
  obtain ⟨b, off, z, hA, hb, hz⟩ := h hn
  exact ⟨b, off, z, hA, hb, fun k hlt => ⟨(hz k hlt).1, (hz k hlt).2.1, by rw [World.cell?_of_block (w := w) (hk b hb)]; exact (hz k hlt).2.2⟩⟩

theorem bytes_below {w w' : World} {n : Nat} {A : Option Addr} (h : BytesAt w w.heap.size A n) (hb : Below w.heap.size w w') : BytesAt w' w'.heap.size A n := fun hn => by
  obtain ⟨b, off, z, hA, hlt, hz⟩ := h hn
  exact ⟨b, off, z, hA, Nat.lt_of_lt_of_le hlt hb.size, fun k hk => ⟨(hz k hk).1, (hz k hk).2.1, (hb.cell (p := ⟨b, off + k, none⟩) hlt).trans (hz k hk).2.2⟩⟩

section
variable {H : Type} {enc : TypeId × Value → H}
theorem open_bytes {W : World} {base : Nat} {v : Value} {d : DataW H} {p : List MemPlace} (hv : Value.okWide Try.prog W .any base 22 v)
    (h : DataW.Trod enc Try.prog W 0 (fun _ => true) true 22 v d p) (hlt : ∀ x ∈ p, x.block < W.heap.size) :
    ∃ (A : Option Addr) (n cap : Nat), v = .slice A n cap ∧ n ≤ maxLen ∧ BytesAt W W.heap.size A n := by
  obtain ⟨a0, len, cap, rfl⟩ := okWide_slice Try.underlying22 hv
  obtain ⟨fuel, hf⟩ := h
  rcases open_ints Try.underlying22 Try.underlying5 (by kernel_rfl) hf with ⟨hcs, hx⟩ | ⟨a, len', cap', zs, hcs, _, hl, hm, hz, hx, hcell, hwz⟩
  · simp only [Value.cells, List.cons.injEq, and_true, Value.slice.injEq] at hcs
    obtain ⟨rfl, rfl, rfl⟩ := hcs
    exact ⟨_, _, _, rfl, Nat.zero_le _, fun h => absurd h (by omega)⟩
  · simp only [Value.cells, List.cons.injEq, and_true, Value.slice.injEq] at hcs
    obtain ⟨rfl, rfl, rfl⟩ := hcs
    simp only [if_true] at hz
    refine ⟨_, _, _, rfl, by omega, fun hn => ?_⟩
    obtain ⟨b, off, rfl, hc⟩ := ints_at hcell (by omega)
    refine ⟨b, off, fun k => zs.getD k 0, rfl, ?_, fun k hk => ?_⟩
    · have := hlt (.cell b off) (by
        injection hx with _ hx
        rw [hx]
        simp only [MemPlace.row, List.mem_map, List.mem_range]
        exact ⟨0, by omega, rfl⟩)
      exact this
    · have hw := hwz (zs.getD k 0) (by rw [List.getD_eq_getElem?_getD, List.getElem?_eq_getElem (by omega)]; exact List.getElem_mem _)
      have := bounds_u8 hw
      exact ⟨this.1, this.2, hc k (by omega)⟩
end

theorem big_any (n cap : Nat) (A : Option Addr) (w : World) (hn : n ≤ maxLen) :
    Calls Try.prog 7 #[.slice A n cap] w fun e w' => e = .returned (.bool (decide ((1048576 : Int) < n))) ∧ w = w' := by
  have hn : n ≤ 9223372036854775807 := hn
  go_enter Try.func7, Try.ntmps7
  go_wp2
  go_ret
  exact ⟨rfl, rfl⟩

/-- Block g is a cursor over these bytes. -/
def Cur (w : World) (g : Nat) (A : Option Addr) (n cap : Nat) : Prop :=
  BytesAt w g A n ∧ ∃ (i : Nat) (h : Int), i ≤ n ∧ w.heap[g]? = some (.cells #[.slice A n cap, .int .i64 i, .int .i64 h] 124 (0, 0))

/-- What a draw of a number does: it answers a number between lo and hi, and turns the cursor alone. -/
def Num (g : Nat) (A : Option Addr) (n cap : Nat) (lo hi : Int) (w : World) (e : Ending) (w' : World) : Prop :=
  ∃ x : Int, lo ≤ x ∧ x ≤ hi ∧ e = .returned (.int .i64 x) ∧ Cur w' g A n cap ∧ w.grownBy w' (some g)

theorem and_bd (x : Int) (m : Nat) (hm : m < 9223372036854775808) : 0 ≤ bits .and .i64 x (m : Int) ∧ bits .and .i64 x (m : Int) ≤ m := by
  have h1 : (BitVec.ofInt 64 (m : Int)).toNat = m := by
    rw [BitVec.ofInt_natCast, BitVec.toNat_ofNat]; exact Nat.mod_eq_of_lt (by omega)
  have h2 : bits .and .i64 x (m : Int) = IntKind.i64.wrap ((BitVec.ofInt 64 x &&& BitVec.ofInt 64 (m : Int)).toNat : Int) := rfl
  have h3 : (BitVec.ofInt 64 x &&& BitVec.ofInt 64 (m : Int)).toNat ≤ m := by
    rw [BitVec.toNat_and, h1]; exact Nat.and_le_right
  rw [h2, IntKind.wrap_i64]
  omega

theorem and_bdi (x m : Int) (h0 : 0 ≤ m) (hm : m < 9223372036854775808) : 0 ≤ bits .and .i64 x m ∧ bits .and .i64 x m ≤ m := by
  obtain ⟨k, rfl⟩ := Int.eq_ofNat_of_zero_le h0
  exact and_bd x k (by omega)
theorem cells_of_block {w : World} {g : Nat} {cs : Array Value} {t : TypeId} (h : w.heap[g]? = some (.cells cs t (0, 0))) :
    (∀ j, w.cell? ⟨g, j, none⟩ = cs[j]?) ∧ (∀ j, w.frozen? ⟨g, j, none⟩ = false) :=
  ⟨fun j => cell_of_row w g j cs t (0, 0) h, fun j => by simp [World.frozen?, h]⟩
theorem block_set {w : World} {g : Nat} {cs : Array Value} {t : TypeId} (h : w.heap[g]? = some (.cells cs t (0, 0))) (j : Nat) (u : Value) :
    (w.setCell ⟨g, j, none⟩ u).heap[g]? = some (.cells (cs.setIfInBounds j u) t (0, 0)) := by
  simp [World.setCell, Array.getElem?_modify, h]
theorem grown_set {w w' : World} {g : Nat} (h : w.grownBy w' (some g)) (j : Nat) (u : Value) : w.grownBy (w'.setCell ⟨g, j, none⟩ u) (some g) :=
  ⟨h.os, h.tape, h.output, by simpa [World.setCell] using h.size, fun i hi hne => (Below.heap_setCell w' ⟨g, j, none⟩ u i (fun e => hne (by rw [e]))).trans (h.block i hi hne)⟩
theorem grown_drew {w w' : World} {r : Option Nat} (h : w.grownBy w' r) (k : Nat) : w.grownBy (w'.drewN k) r := ⟨h.os, h.tape, h.output, h.size, h.block⟩

theorem bytes_grown {w w' : World} {g n : Nat} {A : Option Addr} (h : BytesAt w g A n) (hg : g < w.heap.size) (hr : w.grownBy w' (some g)) : BytesAt w' g A n :=
  h.keep fun b hb => hr.block b (by omega) (fun e => by injection e with e; omega)
theorem block_lt {w : World} {g : Nat} {o : Obj} (h : w.heap[g]? = some o) : g < w.heap.size := (Array.getElem?_eq_some_iff.1 h).1

theorem cur_mid {w : World} {g n cap i : Nat} {A : Option Addr} {h : Int} (hB : BytesAt w g A n) (hi : i ≤ n)
    (hg : w.heap[g]? = some (.cells #[.slice A n cap, .int .i64 i, .int .i64 h] 124 (0, 0))) (u : Int) (k : Nat) :
    Cur ((w.setCell ⟨g, 2, none⟩ (.int .i64 u)).drewN k) g A n cap ∧ w.grownBy ((w.setCell ⟨g, 2, none⟩ (.int .i64 u)).drewN k) (some g) := by
  have hgr := grown_drew (grown_set (World.grownBy.refl w (some g)) 2 (.int .i64 u)) k
  exact ⟨⟨bytes_grown hB (block_lt hg) hgr, i, u, hi, block_set hg 2 _⟩, hgr⟩
theorem cur_next {w : World} {g n cap i : Nat} {A : Option Addr} {h : Int} (hB : BytesAt w g A n) (hi : i < n)
    (hg : w.heap[g]? = some (.cells #[.slice A n cap, .int .i64 i, .int .i64 h] 124 (0, 0))) (u : Int) (k : Nat) :
    Cur (((w.setCell ⟨g, 2, none⟩ (.int .i64 u)).drewN k).setCell ⟨g, 1, none⟩ (.int .i64 ((i : Int) + 1))) g A n cap ∧
      w.grownBy (((w.setCell ⟨g, 2, none⟩ (.int .i64 u)).drewN k).setCell ⟨g, 1, none⟩ (.int .i64 ((i : Int) + 1))) (some g) := by
  have h1 : ((w.setCell ⟨g, 2, none⟩ (.int .i64 u)).drewN k).heap[g]? = some (.cells #[.slice A n cap, .int .i64 i, .int .i64 u] 124 (0, 0)) := block_set hg 2 _
  have hgr := grown_set (grown_drew (grown_set (World.grownBy.refl w (some g)) 2 (.int .i64 u)) k) 1 (.int .i64 ((i : Int) + 1))
  exact ⟨⟨bytes_grown hB (block_lt hg) hgr, i + 1, u, hi, block_set h1 1 _⟩, hgr⟩

theorem byte_any (g n cap : Nat) (A : Option Addr) (w : World) (hn : n ≤ maxLen) (hc : Cur w g A n cap) :
    Calls Try.prog 93 #[.pointer (some ⟨g, 0, none⟩)] w (Num g A n cap 0 255 w) := by
  have hn : n ≤ 9223372036854775807 := hn
  obtain ⟨hb, i, h, hi, hg⟩ := hc
  obtain ⟨hcl, hfr⟩ := cells_of_block hg
  have c0 := hcl 0
  have c1 := hcl 1
  have c2 := hcl 2
  have f1 := hfr 1
  have f2 := hfr 2
  simp only [List.getElem?_toArray, List.getElem?_cons_zero, List.getElem?_cons_succ] at c0 c1 c2
  by_cases hlt : i < n
  · obtain ⟨b, off, z, rfl, hbg, hz⟩ := hb (by omega)
    obtain ⟨z0, z1, zc⟩ := hz i hlt
    have HG := Lib.hid hg
    have HB : Hid (BytesAt w g (some ⟨b, off, none⟩) n) := hb
    have hne : b ≠ g := by omega
    clear hg hb hz hcl hfr
    go_enter Try.func93, Try.ntmps93
    go_wp2
    go_quiet (fail)
    go_wp2
    go_quiet (fail)
    go_wp2
    go_quiet (fail)
    go_wp2
    go_ret
    exact ⟨_, (and_bd _ 255 (by omega)).1, (and_bd _ 255 (by omega)).2, rfl, (cur_next HB.out hlt HG.out _ _).1, (cur_next HB.out hlt HG.out _ _).2⟩
  · have HG := Lib.hid hg
    have HB := Lib.hid hb
    clear hg hb hcl hfr
    go_enter Try.func93, Try.ntmps93
    go_wp2
    go_quiet (fail)
    go_wp2
    go_quiet (fail)
    go_wp2
    go_ret
    rw [World.drewN_drewN]
    exact ⟨_, (and_bd _ 255 (by omega)).1, (and_bd _ 255 (by omega)).2, rfl, (cur_mid HB.out hi HG.out _ _).1, (cur_mid HB.out hi HG.out _ _).2⟩

theorem grown_both {w w1 w2 : World} {g : Nat} (h : w.grownBy w1 (some g)) (k : w1.grownBy w2 (some g)) : w.grownBy w2 (some g) :=
  ⟨k.os.trans h.os, k.tape.trans h.tape, k.output.trans h.output, Nat.le_trans h.size k.size, fun i hi hne => (k.block i (Nat.lt_of_lt_of_le hi h.size) hne).trans (h.block i hi hne)⟩
theorem grown_new (w : World) (o : Obj) (r : Option Nat) : w.grownBy (w.alloc o) r := ⟨rfl, rfl, rfl, by simp, fun i hi _ => Below.heap_alloc w o i hi⟩
theorem Cur.lt {w : World} {g n cap : Nat} {A : Option Addr} (h : Cur w g A n cap) : g < w.heap.size := by
  obtain ⟨_, _, _, _, hg⟩ := h
  exact block_lt hg
theorem Cur.new {w : World} {g n cap : Nat} {A : Option Addr} (h : Cur w g A n cap) (o : Obj) : Cur (w.alloc o) g A n cap := by
  have hlt := h.lt
  obtain ⟨hb, i, x, hi, hg⟩ := h
  exact ⟨bytes_grown hb hlt (grown_new w o _), i, x, hi, (Below.heap_alloc w o g hlt).trans hg⟩
theorem Num.more {g n cap : Nat} {A : Option Addr} {lo hi lo' hi' : Int} {w w1 : World} {e : Ending} {w2 : World} (h : Num g A n cap lo hi w1 e w2) (hl : lo' ≤ lo) (hh : hi ≤ hi') (hg : w.grownBy w1 (some g)) : Num g A n cap lo' hi' w e w2 := by
  obtain ⟨x, h1, h2, h3, h4, h5⟩ := h
  exact ⟨x, by omega, by omega, h3, h4, grown_both hg h5⟩

theorem below_any (g n cap : Nat) (A : Option Addr) (m : Int) (w : World) (hn : n ≤ maxLen) (hc : Cur w g A n cap) (h1 : 1 ≤ m) (h2 : m ≤ 9223372036854775807) :
    Calls Try.prog 47 #[.pointer (some ⟨g, 0, none⟩), .int .i64 m] w (Num g A n cap 0 (m - 1) w) := by
  by_cases h : m ≤ 256
  · go_enter Try.func47, Try.ntmps47
    go_wp2_with fail
    refine (byte_any g n cap A _ hn hc).mono ?_
    rintro e w1 ⟨x, hx0, hx1, rfl, hc1, hg1⟩
    have e1 := Int.emod_nonneg x (show m ≠ 0 by omega)
    have e2 := Int.emod_lt_of_pos x (show 0 < m by omega)
    go_wp2_with fail
    go_ret
    exact ⟨_, e1, by omega, rfl, hc1, hg1⟩
  · go_enter Try.func47, Try.ntmps47
    go_wp2_with fail
    refine (byte_any g n cap A _ hn hc).mono ?_
    rintro e w1 ⟨x, hx0, hx1, rfl, hc1, hg1⟩
    go_wp2_with fail
    refine (byte_any g n cap A _ hn hc1).mono ?_
    rintro e w2 ⟨y, hy0, hy1, rfl, hc2, hg2⟩
    go_wp2_with fail
    refine (byte_any g n cap A _ hn hc2).mono ?_
    rintro e w3 ⟨z, hz0, hz1, rfl, hc3, hg3⟩
    have e1 := Int.emod_nonneg (x * 65536 + y * 256 + z) (show m ≠ 0 by omega)
    have e2 := Int.emod_lt_of_pos (x * 65536 + y * 256 + z) (show 0 < m by omega)
    go_wp2_with fail
    go_ret
    exact ⟨_, e1, by omega, rfl, hc3, grown_both hg1 (grown_both hg2 hg3)⟩

theorem int_any (g n cap : Nat) (A : Option Addr) (l : List Int) (b : Nat) (lo hi : Int) (w : World) (hn : n ≤ maxLen) (hc : Cur w g A n cap) (hbg : b ≠ g)
    (hb : w.heap[b]? = some (.cells (l.map (Value.int .i64)).toArray 3 (0, 0))) (hl : 1 ≤ l.length) (hl2 : l.length ≤ 1000) (hlo : ∀ x ∈ l, lo ≤ x ∧ x ≤ hi) :
    Calls Try.prog 51 #[.pointer (some ⟨g, 0, none⟩), .slice (some ⟨b, 0, none⟩) l.length l.length] w (Num g A n cap lo hi w) := by
  have HB := Lib.hid hb
  have HL := Lib.hid hlo
  have hblt := block_lt hb
  clear hb hlo
  go_enter Try.func51, Try.ntmps51
  go_wp2_with fail
  refine (below_any g n cap A l.length _ hn hc (by omega) (by omega)).mono ?_
  rintro e w1 ⟨x, hx0, hx1, rfl, hc1, hg1⟩
  obtain ⟨k, rfl⟩ := Int.eq_ofNat_of_zero_le hx0
  have hk : k < l.length := by omega
  have hcell : w1.cell? ⟨b, k, none⟩ = some (.int .i64 l[k]) := by
    rw [(cells_of_block ((hg1.block b hblt (fun e => hbg (by injection e))).trans HB.out)).1 k]
    simp [List.getElem?_eq_getElem hk]
  have hmem := HL.out l[k] (List.getElem_mem hk)
  go_wp2_with fail
  go_ret
  exact ⟨l[k], hmem.1, hmem.2, rfl, hc1, hg1⟩

/-- What the making of a cursor does: a new block, the cursor. -/
def Fresh (A : Option Addr) (n cap : Nat) (w : World) (e : Ending) (w' : World) : Prop :=
  e = .returned (.pointer (some ⟨w.heap.size, 0, none⟩)) ∧ Cur w' w.heap.size A n cap ∧ Below w.heap.size w w'

set_option maxRecDepth 100000 in
theorem new_any (n cap : Nat) (A : Option Addr) (w : World) (hn : n ≤ 140737488355328) (hb : BytesAt w w.heap.size A n) :
    Calls Try.prog 45 #[.slice A n cap] w (Fresh A n cap w) := by
  have HB := Lib.hid hb
  clear hb
  go_enter Try.func45, Try.ntmps45
  go_wp2
  go_loop [3, 4] (fun h i => ∃ (k : Nat) (x : Int), k ≤ n ∧ i = .int .i64 k ∧ h = .int .i64 x ∧ 0 ≤ x ∧ x ≤ 281474976710656) (fun _ i => n - (intOf i).toNat)
  case atStart => exact ⟨0, _, by omega, rfl, rfl, by omega, by omega⟩
  case round =>
    obtain ⟨k, x, hk, rfl, rfl, hx0, hx1⟩ := hrel
    by_cases hlt : k < n
    · obtain ⟨b, off, z, rfl, hbg, hz⟩ := HB.out (by omega)
      obtain ⟨z0, z1, zc⟩ := hz k hlt
      clear hz
      by_cases h4 : k < 4000
      · go_wp2
        go_round
        case rel => exact ⟨k + 1, _, by omega, by go_num, rfl, (and_bdi _ 1073741823 (by omega) (by omega)).1, Int.le_trans (and_bdi _ 1073741823 (by omega) (by omega)).2 (by omega)⟩
        case measure => simp [intOf]; omega
      · go_wp2
        go_ret
        refine ⟨rfl, ⟨?_, 0, x, by omega, heap_alloc_new w _⟩, (Below.refl _ _).alloc (Nat.le_refl _) _⟩
        exact HB.out.keep fun b hb => Below.heap_alloc w _ b hb
    · go_wp2
      go_ret
      refine ⟨rfl, ⟨?_, 0, x, by omega, heap_alloc_new w _⟩, (Below.refl _ _).alloc (Nat.le_refl _) _⟩
      exact HB.out.keep fun b hb => Below.heap_alloc w _ b hb

end Go.Proofs.Ytcankpiidjhhpaa
