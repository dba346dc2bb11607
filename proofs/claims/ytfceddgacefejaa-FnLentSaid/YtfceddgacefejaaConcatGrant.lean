/- slices.Grow of nil and slices.Concat at grants: a new slice of all that the slices hold, in order. -/
import Derived.Test.YtfceddgacefejaaApp
import Derived.Test.YtfceddgacefejaaEGrant
import Derived.Lib.AppendZeros
namespace Go.Proofs.Ytfceddgacefejaa
open Go Go.ChangeShapes Go.WideShapes Go.ChangeAt Go.RowKit Go.Lib
set_option linter.unusedVariables false
set_option maxRecDepth 100000

theorem own_zerosG (w : World) (n cap : Nat) (hn : n ≤ cap) (hm : cap ≤ maxLen) :
    (w.alloc (.cells (Builtin.zeroCells (Value.agg #[.int .i64 0, .int .i64 0, .int .i64 0, .int .i64 0, .int .i64 0, .int .i64 0, .bool false]).cells n ++ Builtin.zeroCells (Value.agg #[.int .i64 0, .int .i64 0, .int .i64 0, .int .i64 0, .int .i64 0, .int .i64 0, .bool false]).cells (cap - n)) 35)).ownsRow w.heap.size 35 7 (.slice (some ⟨w.heap.size, 0, none⟩) 0 cap) 0 [] :=
  World.ownsRow_made w _ cap (Nat.le_refl _) hm (by
    rw [Array.size_append, size_zeroCells, size_zeroCells]
    have h : (Value.agg #[.int .i64 0, .int .i64 0, .int .i64 0, .int .i64 0, .int .i64 0, .int .i64 0, .bool false]).cells.size = 7 := rfl
    rw [h]; omega)
theorem grow_Grant (n : Nat) (w : World) (h0 : 0 < n) (hn : n ≤ 1099511627776) :
    Calls Try.prog 215 #[.slice none 0 0, .int .i64 (n : Int)] w (MakesO 35 7 0 [] w) := by
  obtain ⟨i, hi, hz, hs, hb⟩ := info_parts icGrant
  have hg := fun (W : World) => run_append_nil_zeros (P := Try.prog) W 24 3 24 35 i (.agg #[.int .i64 0, .int .i64 0, .int .i64 0, .int .i64 0, .int .i64 0, .int .i64 0, .bool false]) .i64 .i64 Try.underlying24 Try.underlying3 hi hz n h0 (by omega) (by omega) (by rw [hb]; omega)
  have hcl := grownCap_le_maxLen w n 0 35 (by unfold maxLen; omega)
  have hcg := grownCap_ge w n 0 35
  have HG := Lib.hid hg
  have hd : decide ((0 : Int) < n) = true := by simp; omega
  clear hg
  go_enter Try.func215, Try.ntmps215
  go_wp2_with (at_builtin; refine Lib.wpList_append_run _ rfl _ _ _ _ rfl _ _ rfl rfl _ _ (HG.out _) ?_)
  go_ret
  exact ⟨_, rfl, own_zerosG w n _ hcg hcl, ((Below.refl _ _).alloc (Nat.le_refl _) _).drew⟩

/-- A slice of grants that is an element: its address, length, capacity and what it reads as. -/
structure SlG_ where
  A : Option Addr
  n : Nat
  c : Nat
  l : List TGrant
def SlG_.val (s : SlG_) : Value := .slice s.A s.n s.c
def catLG (ss : List SlG_) : List TGrant := ss.flatMap SlG_.l
def catNG (ss : List SlG_) : Nat := (catLG ss).length
theorem catLG_snoc {ss : List SlG_} {k : Nat} {x : SlG_} (h : ss[k]? = some x) : catLG (ss.take (k + 1)) = catLG (ss.take k) ++ x.l := by
  unfold catLG
  rw [List.take_add_one, h, List.flatMap_append]; simp
theorem catNG_snoc {ss : List SlG_} {k : Nat} {x : SlG_} (h : ss[k]? = some x) (hn : x.l.length = x.n) : catNG (ss.take (k + 1)) = catNG (ss.take k) + x.n := by
  unfold catNG
  rw [catLG_snoc h, List.length_append, hn]
theorem catNG_take (ss : List SlG_) (k : Nat) : catNG (ss.take k) ≤ catNG ss := by
  unfold catNG catLG
  conv => rhs; rw [← List.take_append_drop k ss, List.flatMap_append, List.length_append]
  omega

theorem concat_Grant (ss : List SlG_) (A : Option Addr) (n c lo hi : Nat) (w : World) (hn : n ≤ 1000) (hr : Rd w lo hi 1 A n (ss.map SlG_.val)) (hs : Hid (∀ s ∈ ss, Rd w 0 w.heap.size 7 s.A s.n (cGrant s.l)))
    (ht : 0 < catNG ss) (hm : catNG ss ≤ 1099511627776) :
    Calls Try.prog 131 #[.slice A n c] w (Makes 35 7 (catLG ss).length (cGrant (catLG ss)) w) := by
  have HL := Lib.hid (show ss.length = n by simpa using hr.1)
  have HR := Lib.hid hr
  have HC := Lib.hid (catNG_take ss)
  have hlen := Lib.hid (show ∀ s ∈ ss, s.l.length = s.n from fun s h => rd_len TGrant.len (hs.out s h) (by decide))
  clear hr
  go_enter Try.func131, Try.ntmps131
  go_wp2_with fail
  go_loop [3, 11] (fun q i => ∃ k : Nat, k ≤ n ∧ i = .int .i64 k ∧ q = .int .i64 (catNG (ss.take k) : Int)) (fun _ i => n - (intOf i).toNat)
  case atStart => exact ⟨0, Nat.zero_le _, rfl, rfl⟩
  case round =>
    obtain ⟨k, hk, rfl, rfl⟩ := hrel
    by_cases hlt : k < n
    · obtain ⟨b, off, u, rfl, _, _, hu, hc⟩ := HR.out.at1 hlt
      obtain ⟨x, hx, rfl⟩ := map_get _ _ _ _ hu
      have HX := Lib.hid hx
      have HN := Lib.hid (catNG_snoc hx (hlen.out x (List.mem_of_getElem? hx)))
      have hb1 := HC.out (k + 1)
      have hb2 : catNG (ss.take k) + x.n ≤ 1099511627776 := by have := HN.out; omega
      have hc' : w.cell? ⟨b, off + k, none⟩ = some (.slice x.A x.n x.c) := hc
      clear hc hu hx
      go_wp2_with fail
      go_round
      case rel => exact ⟨k + 1, by omega, by go_num, by rw [HN.out]; go_num⟩
      case measure => simp [intOf]; omega
    · obtain rfl : k = n := by omega
      have HE := Lib.hid (show ss.take k = ss from List.take_of_length_le (by rw [HL.out]; omega))
      rw [HE.out]
      go_wp2_with fail
      refine (grow_Grant (catNG ss) _ ht hm).mono ?_
      rintro e w1 ⟨gv, rfl, FG, B1⟩
      have HB1 := Lib.hid B1
      have HO1 := Lib.hid FG
      clear FG B1
      go_wp2_with fail
      go_loopw [6, 27] (fun v i w2 => ∃ j : Nat, j ≤ k ∧ i = .int .i64 j ∧ w2.ownsRow w.heap.size 35 7 v (catNG (ss.take j)) (cGrant (catLG (ss.take j))) ∧ Below w.heap.size w w2) (fun _ i _ => k - (intOf i).toNat)
      case atStart => exact ⟨0, Nat.zero_le _, rfl, HO1.out, HB1.out⟩
      case round =>
        obtain ⟨j, hj, rfl, hown, hb⟩ := hrel
        have HB := Lib.hid hb
        have HO := Lib.hid hown
        have HS := Lib.hid hb.size
        by_cases hlt' : j < k
        · obtain ⟨b, off, u, rfl, _, _, hu, hc⟩ := (HR.out.new hb).at1 hlt'
          obtain ⟨x, hx, rfl⟩ := map_get _ _ _ _ hu
          have HN := Lib.hid (catNG_snoc hx (hlen.out x (List.mem_of_getElem? hx)))
          have HL2 := Lib.hid (catLG_snoc hx)
          have HX := Lib.hid ((hs.out x (List.mem_of_getElem? hx)).new hb)
          have hb1 := Lib.hid (HC.out (j + 1))
          have hc' : wr.cell? ⟨b, off + j, none⟩ = some (.slice x.A x.n x.c) := hc
          clear hc hu hx hown hb
          go_wp2_with (at_builtin; refine wp_app rfl _ _ _ rfl w.heap.size 35 (.agg #[.int .i64 0, .int .i64 0, .int .i64 0, .int .i64 0, .int .i64 0, .int .i64 0, .bool false]) 7 56 Try.underlying24 icGrant rfl (by decide) _ _ _ rfl HO.out 0 w.heap.size x.A x.n x.c (cGrant x.l) rfl HX.out (ocGrant _) (by have := HN.out; have := hb1.out; unfold maxLen; omega) (by have := HN.out; have := hb1.out; omega) HS.out ?_; intro v1 w3 ho1 hb3 _ _)
          have HO2 := Lib.hid (show w3.ownsRow w.heap.size 35 7 v1 (catNG (ss.take (j + 1))) (cGrant (catLG (ss.take (j + 1)))) by
            rw [HN.out, HL2.out]
            simpa using ho1)
          have HB2 := Lib.hid (HB.out.trans hb3)
          clear ho1 hb3
          go_wp2_with fail
          go_roundw
          case rel => exact ⟨j + 1, by omega, by go_num, HO2.out, HB2.out⟩
          case measure => simp [intOf]; omega
        · obtain rfl : j = k := by omega
          rw [HE.out] at hown
          have HO := Lib.hid hown
          clear hown hb
          go_wp2_with fail
          go_ret
          exact makes_of_own HO.out HB.out
end Go.Proofs.Ytfceddgacefejaa
