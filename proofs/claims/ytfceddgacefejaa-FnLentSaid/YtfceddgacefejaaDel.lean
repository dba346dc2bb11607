/- slices.IndexFunc and slices.DeleteFunc at slices of grants, with a method value that leaves what was there. -/
import Derived.Test.YtfceddgacefejaaTGrant
import Derived.Test.YtfceddgacefejaaFun
import Derived.Test.YtfceddgacefejaaClr
namespace Go.Proofs.Ytfceddgacefejaa
open Go Go.ChangeShapes Go.WideShapes Go.ChangeAt Go.RowKit Go.Lib
set_option linter.unusedVariables false
set_option linter.unusedSimpArgs false
set_option maxRecDepth 100000
set_option maxHeartbeats 4000000 in
theorem index_M (p : TGrant → Bool) (mv : Value) (l : List TGrant) (A : Option Addr) (n c lo hi : Nat) (w : World) (hn : n ≤ 17592186044416)
    (hr : Rd w lo hi 7 A n (cGrant l)) (hp : ∀ (W : World) (x : TGrant), Calls Try.prog 133 #[mv, .agg #[.int .i64 x.f0, .int .i64 x.f1, .int .i64 x.f2, .int .i64 x.f3, .int .i64 x.f4, .int .i64 x.f5, .bool x.f6]] W (Says (.bool (p x)) W)) :
    Calls Try.prog 202 #[.slice A n c, .func (.func 133) #[mv] #[]] w (Says (.int .i64 (idxP p l)) w) := by
  have HL := Lib.hid (rd_len TGrant.len hr (by decide))
  have HR := Lib.hid hr
  have HP := Lib.hid hp
  clear hr hp
  go_enter Try.func202, Try.ntmps202
  go_wp2_with fail
  go_loopg [5, 8] n (fun gg _ i wr => ∃ k : Nat, k ≤ n ∧ n - k ≤ gg ∧ i = .int .i64 k ∧ Hid (Below w.heap.size w wr) ∧ Hid ((l.take k).any p = false))
  case atStart => exact ⟨0, Nat.zero_le _, by omega, rfl, Lib.hid (Below.refl _ _), Lib.hid (by simp)⟩
  case round =>
    obtain ⟨k, hk, hg, rfl, HB, HF⟩ := hrel
    by_cases hlt : k < n
    · obtain ⟨b, off, x, rfl, _, _, hz, hc⟩ := rd_elem TGrant.len (HR.out.new HB.out) HL.out hlt
      have c0 : wr.cell? ⟨b, off + k * 7, none⟩ = _ := hc 0 _ rfl
      have c1 := hc 1 _ rfl
      have c2 := hc 2 _ rfl
      have c3 := hc 3 _ rfl
      have c4 := hc 4 _ rfl
      have c5 := hc 5 _ rfl
      have c6 := hc 6 _ rfl
      have HZ := Lib.hid hz
      have hcall := HP.out wr x
      clear hc hz
      cases hq : p x with
      | true =>
        rw [hq] at hcall
        have HE := Lib.hid (idxP_hit HF.out HZ.out hq)
        clear hq
        go_wp2_with (go_at_call 133; refine hcall.mono ?_; rintro e w1 ⟨rfl, hb1⟩; have HB1 := Lib.hid hb1; clear hb1)
        go_ret
        exact ⟨by rw [HE.out]; rfl, below_trans HB.out HB1.out (Nat.le_refl _)⟩
      | false =>
        rw [hq] at hcall
        have HE := Lib.hid (any_step HF.out HZ.out hq)
        clear hq
        go_wp2_with (go_at_call 133; refine hcall.mono ?_; rintro e w1 ⟨rfl, hb1⟩; have HB1 := Lib.hid hb1; clear hb1)
        go_roundg (n - (k + 1))
        case measure => omega
        case rel => exact ⟨k + 1, by omega, by omega, by go_num, Lib.hid (below_trans HB.out HB1.out (Nat.le_refl _)), HE⟩
    · obtain rfl : k = n := by omega
      have HE := Lib.hid (idxP_miss (by have := HF.out; rw [List.take_of_length_le (by have := HL.out; omega)] at this; exact this))
      go_wp2_with fail
      go_ret
      exact ⟨by rw [HE.out]; rfl, HB.out⟩
def qNot (p : TGrant → Bool) (x : TGrant) : Bool := !p x
/-- What the row holds while the elements up to j have been looked at. -/
def DelInv (q : TGrant → Bool) (l : List TGrant) (f : Nat → Value) (j : Nat) : Prop :=
  (∀ (t : Nat) (u : Value), (cGrant ((l.take j).filter q))[t]? = some u → f t = u) ∧ (∀ (m : Nat) (x : TGrant) (t : Nat) (u : Value), j ≤ m → l[m]? = some x → x.cells[t]? = some u → f (m * 7 + t) = u)
theorem filter_all {q : TGrant → Bool} : ∀ {l : List TGrant}, (∀ x ∈ l, q x = true) → l.filter q = l := fun h => List.filter_eq_self.2 h
theorem del_start {p : TGrant → Bool} {l : List TGrant} {f : Nat → Value} {k : Nat} {x : TGrant} (hf : ∀ (t : Nat) (u : Value), (cGrant l)[t]? = some u → f t = u) (h : (l.take k).any p = false) (hz : l[k]? = some x) (hx : p x = true) :
    DelInv (qNot p) l f (k + 1) ∧ k = ((l.take (k + 1)).filter (qNot p)).length := by
  have e : (l.take (k + 1)).filter (qNot p) = l.take k := by
    rw [filter_sn (qNot p) hz, if_neg (by simp [qNot, hx])]
    exact filter_all (fun y hy => by
      have := List.any_eq_false.1 h y hy
      simp [qNot]; simpa using this)
  have hk : k < l.length := (List.getElem?_eq_some_iff.1 hz).1
  refine ⟨⟨fun t u hu => ?_, fun m y t u hm hy hu => hf _ _ (flat_get TGrant.len l m t y u hy hu)⟩, by rw [e, List.length_take]; omega⟩
  rw [e] at hu
  refine hf t u ?_
  have h2 := flat_take (c := TGrant.cells) TGrant.len l k
  have hu' : ((cGrant l).take (k * 7))[t]? = some u := by rw [← hu]; exact congrArg (·[t]?) h2.symm
  rw [List.getElem?_take] at hu'
  split at hu'
  · exact hu'
  · cases hu'
theorem del_skip {p : TGrant → Bool} {l : List TGrant} {f : Nat → Value} {j i : Nat} {x : TGrant} (h : DelInv (qNot p) l f j) (hi : i = ((l.take j).filter (qNot p)).length) (hz : l[j]? = some x) (hx : p x = true) :
    DelInv (qNot p) l f (j + 1) ∧ i = ((l.take (j + 1)).filter (qNot p)).length := by
  have e : (l.take (j + 1)).filter (qNot p) = (l.take j).filter (qNot p) := by rw [filter_sn (qNot p) hz, if_neg (by simp [qNot, hx])]
  exact ⟨⟨fun t u hu => h.1 t u (by rw [← e]; exact hu), fun m y t u hm hy hu => h.2 m y t u (by omega) hy hu⟩, by rw [e]; exact hi⟩
theorem del_put {p : TGrant → Bool} {l : List TGrant} {f : Nat → Value} {j i : Nat} {x : TGrant} (h : DelInv (qNot p) l f j) (hi : i = ((l.take j).filter (qNot p)).length) (hij : i < j) (hz : l[j]? = some x) (hx : p x = false) :
    DelInv (qNot p) l (fun t => if i * 7 ≤ t ∧ t < i * 7 + x.cells.length then x.cells[t - i * 7]?.getD default else f t) (j + 1) ∧ i + 1 = ((l.take (j + 1)).filter (qNot p)).length := by
  have e : (l.take (j + 1)).filter (qNot p) = (l.take j).filter (qNot p) ++ [x] := by rw [filter_sn (qNot p) hz, if_pos (by simp [qNot, hx])]
  have hl : (cGrant ((l.take j).filter (qNot p))).length = i * 7 := by rw [flat_len TGrant.len, ← hi]
  refine ⟨⟨fun t u hu => ?_, fun m y t u hm hy hu => ?_⟩, by rw [e, List.length_append, ← hi]; rfl⟩
  · rw [e, show cGrant ((l.take j).filter (qNot p) ++ [x]) = cGrant ((l.take j).filter (qNot p)) ++ x.cells by simp [cGrant]] at hu
    by_cases ht : t < i * 7
    · rw [List.getElem?_append_left (by omega)] at hu
      dsimp only
      rw [if_neg (by omega)]
      exact h.1 t u hu
    · rw [List.getElem?_append_right (by omega), hl] at hu
      have hlt := (List.getElem?_eq_some_iff.1 hu).1
      dsimp only
      rw [if_pos ⟨by omega, by omega⟩, hu]; rfl
  · have ht := (List.getElem?_eq_some_iff.1 hu).1
    rw [TGrant.len] at ht
    dsimp only
    rw [if_neg (by rw [TGrant.len]; intro hc; omega)]
    exact h.2 m y t u (by omega) hy hu
/-- The slice cut to what is kept, in the row that it had. -/
def DelP (lo hi : Nat) (xs : List TGrant) (w : World) (e : Ending) (w' : World) : Prop :=
  ∃ A c, e = .returned (.slice A xs.length c) ∧ Fr w' lo hi 35 7 A xs.length c (cGrant xs) ∧ Chg lo hi w w'
set_option maxHeartbeats 16000000 in
theorem del_Grant (p : TGrant → Bool) (mv : Value) (l : List TGrant) (A : Option Addr) (n c lo hi : Nat) (w : World) (hn : n ≤ 1048576) (hhi : hi ≤ w.heap.size)
    (hF : Fr w lo hi 35 7 A n c (cGrant l)) (hp : ∀ (W : World) (x : TGrant), Calls Try.prog 133 #[mv, .agg #[.int .i64 x.f0, .int .i64 x.f1, .int .i64 x.f2, .int .i64 x.f3, .int .i64 x.f4, .int .i64 x.f5, .bool x.f6]] W (Says (.bool (p x)) W)) :
    Calls Try.prog 132 #[.slice A n c, .func (.func 133) #[mv] #[]] w (DelP lo hi (l.filter (qNot p)) w) := by
  have hL := rd_len TGrant.len hF.rd (by decide)
  have HI := Lib.hid (index_M p mv l A n c lo hi w (by omega) hF.rd hp)
  cases hq : l.any p with
  | false =>
    have hN : idxP p l = -1 := idxP_miss hq
    have hA : l.filter (qNot p) = l := filter_all (fun y hy => by
      have := List.any_eq_false.1 hq y hy
      simp [qNot]; simpa using this)
    rw [hA]
    have HL := Lib.hid hL
    have HF := Lib.hid hF
    have HN := Lib.hid hN
    clear hL hF hN hA hq hp
    go_enter Try.func132, Try.ntmps132
    go_wp2_with fail
    refine HI.out.mono ?_
    rw [HN.out]
    rintro e w1 ⟨rfl, hb1⟩
    have HB := Lib.hid hb1
    clear hb1
    go_wp2_with fail
    go_ret
    exact ⟨A, c, by rw [HL.out]; rfl, by rw [HL.out]; exact HF.out.new HB.out, chg_of_new HB.out⟩
  | true =>
    obtain ⟨k, x0, hk0, hz0, hx0, hpre⟩ : ∃ (k : Nat) (x : TGrant), idxP p l = k ∧ l[k]? = some x ∧ p x = true ∧ (l.take k).any p = false := by
      unfold idxP
      cases hf : l.findIdx? p with
      | none =>
        rw [List.findIdx?_eq_none_iff] at hf
        obtain ⟨x, hx, hpx⟩ := List.any_eq_true.1 hq
        have := hf x hx
        rw [hpx] at this; cases this
      | some k =>
        obtain ⟨hk, hpk, hj⟩ := List.findIdx?_eq_some_iff_getElem.1 hf
        refine ⟨k, l[k], rfl, List.getElem?_eq_getElem hk, hpk, ?_⟩
        rw [List.any_eq_false]
        intro y hy
        obtain ⟨i, hi, rfl⟩ := List.mem_take_iff_getElem.1 hy
        have := hj i (by omega)
        simpa using this
    have hkn : k < n := by have := (List.getElem?_eq_some_iff.1 hz0).1; omega
    obtain ⟨g, cap, rfl, hlo, hg, hnc, rfl, hcm, f, hrow, hf⟩ := hF.row (by omega)
    obtain ⟨hI0, hlen0⟩ := del_start hf hpre hz0 hx0
    have HL := Lib.hid hL
    have HK := Lib.hid hk0
    have HRow := Lib.hid hrow
    have HI0 := Lib.hid hI0
    have HLen0 := Lib.hid hlen0
    have HP := Lib.hid hp
    have hkb : decide ((k : Int) = -1) = false := by rw [decide_eq_false_iff_not]; omega
    have hkb2 : ((k : Int) == -1) = false := by rw [beq_eq_false_iff_ne]; omega
    clear hL hq hk0 hz0 hx0 hpre hrow hf hI0 hlen0 hF hp
    go_enter Try.func132, Try.ntmps132
    go_wp2_with fail
    refine HI.out.mono ?_
    rw [HK.out]
    rintro e w1 ⟨rfl, hb1⟩
    have HB1 := Lib.hid (chg_of_new (lo := lo) (hi := hi) hb1)
    have HRow1 := Lib.hid (HRow.out.of_block (hb1.block g (by omega)))
    clear hb1 HRow HK
    go_wp2_with fail
    go_loopg [5, 6] n (fun gg si sj wr => ∃ (i j : Nat) (f : Nat → Value), i < j ∧ j ≤ n ∧ n - j ≤ gg ∧ si = .int .i64 i ∧ sj = .int .i64 j ∧ Hid (i = ((l.take j).filter (qNot p)).length) ∧ Hid (wr.rowIs g 35 (c * 7) f) ∧ Hid (DelInv (qNot p) l f j) ∧ Hid (Chg lo hi w wr))
    case atStart => exact ⟨k, k + 1, f, by omega, by omega, by omega, rfl, by go_num, HLen0, HRow1, HI0, HB1⟩
    case round =>
      obtain ⟨i, j, f, hij, hj, hgg, rfl, rfl, HLen, HRow, HInv, HC⟩ := hrel
      by_cases hlt : j < n
      · have hjl : j < l.length := by have := HL.out; omega
        obtain ⟨x, hz⟩ : ∃ x, l[j]? = some x := ⟨_, List.getElem?_eq_getElem hjl⟩
        have hcc : j * 7 + 7 ≤ c * 7 := by omega
        have hci : i * 7 + 7 ≤ c * 7 := by omega
        have c0 : wr.cell? ⟨g, j * 7, none⟩ = some (.int .i64 x.f0) := (HRow.out.cell (by omega)).trans (congrArg some (HInv.out.2 j x 0 _ (Nat.le_refl _) hz rfl))
        have c1 : wr.cell? ⟨g, j * 7 + 1, none⟩ = some (.int .i64 x.f1) := (HRow.out.cell (by omega)).trans (congrArg some (HInv.out.2 j x 1 _ (Nat.le_refl _) hz rfl))
        have c2 : wr.cell? ⟨g, j * 7 + 2, none⟩ = some (.int .i64 x.f2) := (HRow.out.cell (by omega)).trans (congrArg some (HInv.out.2 j x 2 _ (Nat.le_refl _) hz rfl))
        have c3 : wr.cell? ⟨g, j * 7 + 3, none⟩ = some (.int .i64 x.f3) := (HRow.out.cell (by omega)).trans (congrArg some (HInv.out.2 j x 3 _ (Nat.le_refl _) hz rfl))
        have c4 : wr.cell? ⟨g, j * 7 + 4, none⟩ = some (.int .i64 x.f4) := (HRow.out.cell (by omega)).trans (congrArg some (HInv.out.2 j x 4 _ (Nat.le_refl _) hz rfl))
        have c5 : wr.cell? ⟨g, j * 7 + 5, none⟩ = some (.int .i64 x.f5) := (HRow.out.cell (by omega)).trans (congrArg some (HInv.out.2 j x 5 _ (Nat.le_refl _) hz rfl))
        have c6 : wr.cell? ⟨g, j * 7 + 6, none⟩ = some (.bool x.f6) := (HRow.out.cell (by omega)).trans (congrArg some (HInv.out.2 j x 6 _ (Nat.le_refl _) hz rfl))
        have hgl : g < wr.heap.size := by have := HC.out.size; omega
        have hgne : g ≠ wr.heap.size := by omega
        have HZ := Lib.hid hz
        have hcall := HP.out (wr.alloc (.cells #[.int .i64 x.f0, .int .i64 x.f1, .int .i64 x.f2, .int .i64 x.f3, .int .i64 x.f4, .int .i64 x.f5, .bool x.f6] 35)) x
        have HBx := Lib.hid (box_new wr 35 #[.int .i64 x.f0, .int .i64 x.f1, .int .i64 x.f2, .int .i64 x.f3, .int .i64 x.f4, .int .i64 x.f5, .bool x.f6])
        clear hz hjl
        cases hq : p x with
        | true =>
          rw [hq] at hcall
          have HS := Lib.hid (del_skip HInv.out HLen.out HZ.out hq)
          clear hq
          go_wp2_with (go_at_call 133; refine hcall.mono ?_; rintro e w2 ⟨rfl, hb2⟩; have HB2 := Lib.hid hb2; clear hb2)
          have HC2 := Lib.hid ((HC.out.alloc _).trans (chg_of_new HB2.out))
          have HRow2 := Lib.hid ((HRow.out.of_block (Below.heap_alloc wr _ g hgl)).of_block (HB2.out.block g (by simp; omega)))
          go_roundg (n - (j + 1))
          case measure => omega
          case rel => exact ⟨i, j + 1, f, by omega, by omega, by omega, rfl, by go_num, Lib.hid HS.out.2, HRow2, Lib.hid HS.out.1, HC2⟩
        | false =>
          rw [hq] at hcall
          have HS := Lib.hid (del_put HInv.out HLen.out hij HZ.out hq)
          clear hq 
          go_wp2_with fail
          refine hcall.mono ?_
          rintro e w2 ⟨rfl, hb2⟩
          have HB2 := Lib.hid hb2
          have HC2 := Lib.hid ((HC.out.alloc _).trans (chg_of_new HB2.out))
          have HRow2 := Lib.hid ((HRow.out.of_block (Below.heap_alloc wr _ g hgl)).of_block (HB2.out.block g (by simp; omega)))
          have KBx := HBx.out.new hb2
          have hz2 : wr.heap.size < w2.heap.size := KBx.lt
          have e0 := KBx.at_ (j := 0) rfl
          have e1 := KBx.at_ (j := 1) rfl
          have e2 := KBx.at_ (j := 2) rfl
          have e3 := KBx.at_ (j := 3) rfl
          have e4 := KBx.at_ (j := 4) rfl
          have e5 := KBx.at_ (j := 5) rfl
          have e6 := KBx.at_ (j := 6) rfl
          clear hb2 KBx
          have HTh := Lib.hid (there_row HRow2.out hci)
          have HRow3 := Lib.hid (rowIs_setCells [.int .i64 x.f0, .int .i64 x.f1, .int .i64 x.f2, .int .i64 x.f3, .int .i64 x.f4, .int .i64 x.f5, .bool x.f6] (i * 7) w2 f HRow2.out)
          have HC3 := Lib.hid (chg_setCells hlo hg [.int .i64 x.f0, .int .i64 x.f1, .int .i64 x.f2, .int .i64 x.f3, .int .i64 x.f4, .int .i64 x.f5, .bool x.f6] (i * 7) w2 HC2.out)
          go_wp2_with (refine wpList_store_mid rfl _ (.tmp 33) (.tmp 32) rfl g (i * 7) #[.int .i64 x.f0, .int .i64 x.f1, .int .i64 x.f2, .int .i64 x.f3, .int .i64 x.f4, .int .i64 x.f5, .bool x.f6] rfl rfl HTh.out (by kernel_rfl) (by simp [Value.oneCell']) ?_; change wpList _ _ _ _ _ (World.setCells w2 g (i * 7) [.int .i64 x.f0, .int .i64 x.f1, .int .i64 x.f2, .int .i64 x.f3, .int .i64 x.f4, .int .i64 x.f5, .bool x.f6]); generalize World.setCells w2 g (i * 7) [.int .i64 x.f0, .int .i64 x.f1, .int .i64 x.f2, .int .i64 x.f3, .int .i64 x.f4, .int .i64 x.f5, .bool x.f6] = w3 at HRow3 HC3 ⊢)
          go_roundg (n - (j + 1))
          case measure => omega
          case rel => exact ⟨i + 1, j + 1, _, by omega, by omega, by omega, by go_num, by go_num, Lib.hid HS.out.2, HRow3, Lib.hid HS.out.1, HC3⟩
      · obtain rfl : j = n := by omega
        have hLn : (l.take j).filter (qNot p) = l.filter (qNot p) := by rw [List.take_of_length_le (by have := HL.out; omega)]
        have hil : i = (l.filter (qNot p)).length := by rw [← hLn]; exact HLen.out
        have hI1 := HInv.out.1
        rw [hLn] at hI1
        have hcl : ∀ ty, (Builtin.clear_ #[24] ty #[.slice (some ⟨g, i * 7, none⟩) (j - i) (c - i)]).run Try.prog wr = .ok (.tuple #[]) (wr.setCells g (i * 7) (Builtin.zeroCells (Value.agg #[.int .i64 0, .int .i64 0, .int .i64 0, .int .i64 0, .int .i64 0, .int .i64 0, .bool false]).cells (j - i)).toList) := fun ty =>
          run_clear_rows wr _ _ ty (.agg #[.int .i64 0, .int .i64 0, .int .i64 0, .int .i64 0, .int .i64 0, .int .i64 0, .bool false]) 7 Try.underlying24 Try.zeroValue35 rfl g (i * 7) (j - i) (c - i) (by omega)
            (fun t ht => by rw [HRow.out.cell (by omega)]; rfl) (fun t _ => HRow.out.frozen _) (by
              intro v hv
              simp only [Builtin.zeroCells, Array.toList_map, List.mem_map, Array.toList_range, List.mem_range] at hv
              obtain ⟨t, ht, rfl⟩ := hv
              change ((#[.int .i64 0, .int .i64 0, .int .i64 0, .int .i64 0, .int .i64 0, .int .i64 0, .bool false] : Array Value)[t % 7]!).oneCell' = true
              have hlt : t % 7 < 7 := Nat.mod_lt _ (by decide)
              generalize t % 7 = r at hlt ⊢
              obtain rfl | rfl | rfl | rfl | rfl | rfl | rfl : r = 0 ∨ r = 1 ∨ r = 2 ∨ r = 3 ∨ r = 4 ∨ r = 5 ∨ r = 6 := by omega
              all_goals rfl)
        have hzl : (Builtin.zeroCells (Value.agg #[.int .i64 0, .int .i64 0, .int .i64 0, .int .i64 0, .int .i64 0, .int .i64 0, .bool false]).cells (j - i)).toList.length = (j - i) * 7 := by simp [Builtin.zeroCells, Value.cells]
        generalize (Builtin.zeroCells (Value.agg #[.int .i64 0, .int .i64 0, .int .i64 0, .int .i64 0, .int .i64 0, .int .i64 0, .bool false]).cells (j - i)).toList = zs at hcl hzl
        have HRowZ := Lib.hid (rowIs_setCells zs (i * 7) wr f HRow.out)
        have HCz := Lib.hid (chg_setCells hlo hg zs (i * 7) wr HC.out)
        have HFr := Lib.hid (fr_of_rowcap (lo := lo) (hi := hi) (n := (l.filter (qNot p)).length) (xs := cGrant (l.filter (qNot p))) HRowZ.out hlo hg (by omega) hcm (flat_len TGrant.len _) (fun t u hu => by
          have hlt := (List.getElem?_eq_some_iff.1 hu).1
          rw [flat_len TGrant.len, ← hil] at hlt
          rw [if_neg (by omega)]
          exact hI1 t u hu))
        generalize wr.setCells g (i * 7) zs = w3 at hcl HRowZ HCz HFr
        have HIl := Lib.hid hil
        have hic : i < c := by omega
        have hic2 : i ≤ c := by omega
        clear hLn hil hI1 hzl HRowZ
        go_wp2_with fail
        go_ret
        exact ⟨_, _, by rw [← HIl.out]; rfl, HFr.out, HCz.out⟩
end Go.Proofs.Ytfceddgacefejaa
