/- slices.Grow of nil and slices.Concat at integers: a new slice of all that the slices hold, in order. -/
import Derived.Test.YtlnmgfbfpjfddaaDoorApp
import Derived.Lib.AppendZeros
namespace Go.Proofs.YtlnmgfbfpjfddaaDoor
open Go Go.ChangeShapes Go.WideShapes Go.ChangeAt Go.RowKit Go.Lib
set_option linter.unusedVariables false
set_option maxRecDepth 100000

theorem info_int' : (Tryd.prog.info? 3).map (fun i => (i.zero, i.size, i.bytes)) = some (some (.int .i64 0), 1, 8) := by kernel_rfl
theorem own_zeros (w : World) (n cap : Nat) (hn : n ≤ cap) (hm : cap ≤ maxLen) :
  (w.alloc (.cells (Builtin.zeroCells (Value.int .i64 0).cells n ++ Builtin.zeroCells (Value.int .i64 0).cells (cap - n)) 3)).ownsRow w.heap.size 3 1 (.slice (some ⟨w.heap.size, 0, none⟩) 0 cap) 0 [] :=
 World.ownsRow_made w _ cap (Nat.le_refl _) hm (by
  rw [Array.size_append, size_zeroCells, size_zeroCells]
  have h : (Value.int .i64 0).cells.size = 1 := rfl
  rw [h]; omega)
theorem grow_int (n : Nat) (w : World) (h0 : 0 < n) (hn : n ≤ 1099511627776) :
  Calls Tryd.prog 111 #[.slice none 0 0, .int .i64 (n : Int)] w (MakesO 3 1 0 [] w) := by
 obtain ⟨i, hi, hz, hs, hb⟩ := info_parts info_int'
 have hg := fun (W : World) => run_append_nil_zeros (P := Tryd.prog) W 40 3 40 3 i (.int .i64 0) .i64 .i64 Tryd.underlying40 Tryd.underlying3 hi hz n h0 (by omega) (by omega) (by rw [hb]; omega)
 have hcl := grownCap_le_maxLen w n 0 3 (by unfold maxLen; omega)
 have hcg := grownCap_ge w n 0 3
 have HG := Lib.hid hg
 have hd : decide ((0 : Int) < n) = true := by simp; omega
 clear hg
 go_enter Tryd.func111, Tryd.ntmps111
 go_wp2_with (at_builtin; refine Lib.wpList_append_run _ rfl _ _ _ _ rfl _ _ rfl rfl _ _ (HG.out _) ?_)
 go_ret
 exact ⟨_, rfl, own_zeros w n _ hcg hcl, ((Below.refl _ _).alloc (Nat.le_refl _) _).drew⟩

/-- A slice of integers that is an element: its address, length, capacity and what it reads as. -/
structure SlV where
 A : Option Addr
 n : Nat
 c : Nat
 l : List Int
def SlV.val (s : SlV) : Value := .slice s.A s.n s.c
def catL (ss : List SlV) : List Int := ss.flatMap SlV.l
def catN (ss : List SlV) : Nat := (catL ss).length
theorem catL_snoc {ss : List SlV} {k : Nat} {x : SlV} (h : ss[k]? = some x) : catL (ss.take (k + 1)) = catL (ss.take k) ++ x.l := by
 unfold catL
 rw [List.take_add_one, h, List.flatMap_append]; simp
theorem catN_snoc {ss : List SlV} {k : Nat} {x : SlV} (h : ss[k]? = some x) (hn : x.l.length = x.n) : catN (ss.take (k + 1)) = catN (ss.take k) + x.n := by
 unfold catN
 rw [catL_snoc h, List.length_append, hn]
theorem catN_take (ss : List SlV) (k : Nat) : catN (ss.take k) ≤ catN ss := by
 unfold catN catL
 conv => rhs; rw [← List.take_append_drop k ss, List.flatMap_append, List.length_append]
 omega

theorem concat_int (ss : List SlV) (A : Option Addr) (n c lo hi : Nat) (w : World) (hn : n ≤ 1000) (hr : Rd w lo hi 1 A n (ss.map SlV.val)) (hs : Hid (∀ s ∈ ss, Rd w 0 w.heap.size 1 s.A s.n (i64s s.l)))
  (ht : 0 < catN ss) (hm : catN ss ≤ 1099511627776) :
  Calls Tryd.prog 104 #[.slice A n c] w (Makes 3 1 (catL ss).length (i64s (catL ss)) w) := by
 have HL := Lib.hid (show ss.length = n by simpa using hr.1)
 have HR := Lib.hid hr
 have HC := Lib.hid (catN_take ss)
 have hlen := Lib.hid (show ∀ s ∈ ss, s.l.length = s.n from fun s h => by simpa using (hs.out s h).1)
 clear hr
 go_enter Tryd.func104, Tryd.ntmps104
 go_wp2_with fail
 go_loop [3, 11] (fun q i => ∃ k : Nat, k ≤ n ∧ i = .int .i64 k ∧ q = .int .i64 (catN (ss.take k) : Int)) (fun _ i => n - (intOf i).toNat)
 case atStart => exact ⟨0, Nat.zero_le _, rfl, rfl⟩
 case round =>
  obtain ⟨k, hk, rfl, rfl⟩ := hrel
  by_cases hlt : k < n
  ·
   obtain ⟨b, off, u, rfl, _, _, hu, hc⟩ := HR.out.at1 hlt
   obtain ⟨x, hx, rfl⟩ := map_get _ _ _ _ hu
   have HX := Lib.hid hx
   have HN := Lib.hid (catN_snoc hx (hlen.out x (List.mem_of_getElem? hx)))
   have hb1 := HC.out (k + 1)
   have hb2 : catN (ss.take k) + x.n ≤ 1099511627776 := by have := HN.out; omega
   have hc' : w.cell? ⟨b, off + k, none⟩ = some (.slice x.A x.n x.c) := hc
   clear hc hu hx
   go_wp2_with fail
   go_round
   case rel => exact ⟨k + 1, by omega, by go_num, by rw [HN.out]; go_num⟩
   case measure => simp [intOf]; omega
  ·
   obtain rfl : k = n := by omega
   have HE := Lib.hid (show ss.take k = ss from List.take_of_length_le (by rw [HL.out]; omega))
   rw [HE.out]
   go_wp2_with fail
   refine (grow_int (catN ss) _ ht hm).mono ?_
   rintro e w1 ⟨gv, rfl, FG, B1⟩
   have HB1 := Lib.hid B1
   have HO1 := Lib.hid FG
   clear FG B1
   go_wp2_with fail
   go_loopw [6, 27] (fun v i w2 => ∃ j : Nat, j ≤ k ∧ i = .int .i64 j ∧ w2.ownsRow w.heap.size 3 1 v (catN (ss.take j)) (i64s (catL (ss.take j))) ∧ Below w.heap.size w w2) (fun _ i _ => k - (intOf i).toNat)
   case atStart => exact ⟨0, Nat.zero_le _, rfl, HO1.out, HB1.out⟩
   case round =>
    obtain ⟨j, hj, rfl, hown, hb⟩ := hrel
    have HB := Lib.hid hb
    have HO := Lib.hid hown
    have HS := Lib.hid hb.size
    by_cases hlt' : j < k
    ·
     obtain ⟨b, off, u, rfl, _, _, hu, hc⟩ := (HR.out.new hb).at1 hlt'
     obtain ⟨x, hx, rfl⟩ := map_get _ _ _ _ hu
     have HN := Lib.hid (catN_snoc hx (hlen.out x (List.mem_of_getElem? hx)))
     have HL2 := Lib.hid (catL_snoc hx)
     have HX := Lib.hid ((hs.out x (List.mem_of_getElem? hx)).new hb)
     have hb1 := Lib.hid (HC.out (j + 1))
     have hc' : wr.cell? ⟨b, off + j, none⟩ = some (.slice x.A x.n x.c) := hc
     clear hc hu hx hown hb
     go_wp2_with (at_builtin; refine wp_app rfl _ _ _ rfl w.heap.size 3 (.int .i64 0) 1 8 Tryd.underlying40 info_int' rfl (by decide) _ _ _ rfl HO.out 0 w.heap.size x.A x.n x.c (i64s x.l) rfl HX.out (ints_oneCell _ _) (by have := HN.out; have := hb1.out; unfold maxLen; omega) (by have := HN.out; have := hb1.out; omega) HS.out ?_; intro v1 w3 ho1 hb3 _ _)
     have HO2 := Lib.hid (show w3.ownsRow w.heap.size 3 1 v1 (catN (ss.take (j + 1))) (i64s (catL (ss.take (j + 1)))) by
      rw [HN.out, HL2.out]
      simpa using ho1)
     have HB2 := Lib.hid (HB.out.trans hb3)
     clear ho1 hb3
     go_wp2_with fail
     go_roundw
     case rel => exact ⟨j + 1, by omega, by go_num, HO2.out, HB2.out⟩
     case measure => simp [intOf]; omega
    ·
     obtain rfl : j = k := by omega
     rw [HE.out] at hown
     have HO := Lib.hid hown
     clear hown hb
     go_wp2_with fail
     go_ret
     exact makes_of_own HO.out HB.out
end Go.Proofs.YtlnmgfbfpjfddaaDoor
