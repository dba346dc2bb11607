/- The writer of the program. -/
import Derived.Test.YtpefeihpoafkdaaDoorCore
import Derived.Test.YtpefeihpoafkdaaDoorCell
import Derived.Test.YtpefeihpoafkdaaDoorFun
import Derived.Test.YtpefeihpoafkdaaDoorFmt
import Derived.Lib.AppendStr
import Derived.Lib.UnsafeStr
import Derived.Lib.AppendIntMem
import Derived.Laws.BytesArg
import Derived.Deep.LoopGhost
namespace Go.Proofs.YtpefeihpoafkdaaDoor
open Go Go.ChangeShapes Go.WideShapes Go.ChangeAt Go.RowKit Go.Lib
set_option linter.unusedVariables false
set_option linter.unusedSimpArgs false
set_option maxRecDepth 100000
/-- The writer behind g holds these bytes, in a row of its own from base on. -/
def Wrt (W : World) (g base : Nat) (J : List UInt8) (v : Value) : Prop := BoxAt W g 65 #[v] ∧ W.ownsRow base 5 1 v J.length (byteCells J)
/-- From w to w' nothing has turned but block g and r. -/
structure Puts (g : Nat) (r : Option Nat) (w w' : World) : Prop where
  os : w'.os = w.os
  tape : w'.tape = w.tape
  output : w'.output = w.output
  size : w.heap.size ≤ w'.heap.size
  block : ∀ k, k < w.heap.size → k ≠ g → r ≠ some k → w'.heap[k]? = w.heap[k]?
theorem Puts.refl (g : Nat) (r : Option Nat) (w : World) : Puts g r w w := ⟨rfl, rfl, rfl, Nat.le_refl _, fun _ _ _ _ => rfl⟩
theorem Puts.more {g : Nat} {r r1 : Option Nat} {w w1 w2 : World} (h : Puts g r w w1) (hr : r1 = r ∨ ∃ q, r1 = some q ∧ w.heap.size ≤ q) (k : Puts g r1 w1 w2) : Puts g r w w2 :=
  ⟨k.os.trans h.os, k.tape.trans h.tape, k.output.trans h.output, Nat.le_trans h.size k.size, fun i hi h1 h2 => (k.block i (Nat.lt_of_lt_of_le hi h.size) h1 (by
    rcases hr with rfl | ⟨q, rfl, hq⟩
    · exact h2
    · intro e; injection e with e; omega)).trans (h.block i hi h1 h2)⟩
theorem Puts.below {g B : Nat} {r : Option Nat} {w w' : World} (h : Puts g r w w') (hg : B ≤ g) (hr : ∀ q, r = some q → B ≤ q) (hB : B ≤ w.heap.size) : Below B w w' :=
  ⟨h.os, h.tape, h.output, h.size, fun k hk => h.block k (by omega) (by omega) (fun e => by have := hr k e; omega)⟩
theorem puts_step {g : Nat} {r : Option Nat} {w w1 : World} (h : w.grownBy w1 r) (u : Value) : Puts g r w (w1.setCell ⟨g, 0, none⟩ u) :=
  ⟨h.os, h.tape, h.output, by simpa [World.setCell] using h.size, fun k hk h1 h2 => (Below.heap_setCell w1 ⟨g, 0, none⟩ u k h1).trans (h.block k hk (fun e => h2 e.symm))⟩
theorem own_setfar {w : World} {g j base size n : Nat} {e : TypeId} {v u : Value} {xs : List Value} (h : w.ownsRow base e size v n xs) (hg : g < base) : (w.setCell ⟨g, j, none⟩ u).ownsRow base e size v n xs := by
  refine ⟨h.1, ?_⟩
  rcases h.2 with h0 | ⟨q, cap, cur, hv, hq, hh, rest⟩
  · exact .inl h0
  · exact .inr ⟨q, cap, cur, hv, hq, (Below.heap_setCell w ⟨g, j, none⟩ u q (by show q ≠ g; omega)).trans hh, rest⟩
theorem wrt_new {w w' : World} {g base : Nat} {J : List UInt8} {v : Value} (h : Wrt w g base J v) (hb : Below w.heap.size w w') : Wrt w' g base J v := ⟨h.1.new hb, own_newer h.2 hb⟩
theorem wrt_alloc {w : World} {g base : Nat} {J : List UInt8} {v : Value} (h : Wrt w g base J v) (o : Obj) : Wrt (w.alloc o) g base J v := ⟨h.1.alloc_ o, h.2.alloc o⟩
theorem wrt_zero (w : World) (base : Nat) : Wrt (w.alloc (.cells #[.slice none 0 0] 65)) w.heap.size base [] (.slice none 0 0) := ⟨box_new _ _ _, World.ownsRow_nil _ base 5 1⟩
theorem own_slice {w : World} {base size n : Nat} {e : TypeId} {v : Value} {xs : List Value} (h : w.ownsRow base e size v n xs) : ∃ A c, v = .slice A n c := by
  rcases h.2 with ⟨rfl, rfl⟩ | ⟨g, cap, cur, rfl, _⟩
  · exact ⟨_, _, rfl⟩
  · exact ⟨_, _, rfl⟩
theorem info_u8 : (Tryd.prog.info? 5).map (fun i => (i.zero, i.size, i.bytes)) = some (some (.int .u8 0), 1, 1) := by kernel_rfl
theorem flatt_snoc {ts : List (List UInt8)} {k : Nat} {t : List UInt8} (h : ts[k]? = some t) : (ts.take (k + 1)).flatten = (ts.take k).flatten ++ t := by
  rw [List.take_add_one, h]; simp
theorem flatt_le (ts : List (List UInt8)) (k : Nat) : (ts.take k).flatten.length ≤ ts.flatten.length := by
  conv => rhs; rw [← List.take_append_drop k ts, List.flatten_append, List.length_append]
  omega
section
variable {P : Program} {w : World}
/-- Which row the result of append of a string lies in. -/
theorem app_str_block (base : Nat) (t u ty e : TypeId) (i : TypeInfo) (ht : P.underlying t = some (.slice e)) (hu : P.underlying u = some .string) (hi : P.info? e = some i) (hz : i.zero = some (.int .u8 0))
    (hsize : i.size = 1) (hby : i.bytes = 1) (v : Value) (n : Nat) (xs : List Value) (hown : w.ownsRow base e 1 v n xs) (s : ByteArray) (hbytes : n + s.size ≤ 140737488355328) {v' : Value} {w' : World}
    (hrun : (Builtin.append_ #[t, u] ty #[v, .string s]).run P w = .ok v' w') (hnil : v' = .slice none 0 0 ↔ v = .slice none 0 0 ∧ s.size = 0) : v'.ownBlock = v.ownBlock ∨ v'.ownBlock = some w.heap.size := by
  have hxl : xs.length = n := by simpa using hown.1
  rcases hown.2 with ⟨rfl, rfl⟩ | ⟨g, cap, cur, rfl, hbg, hg, hnc, hcm, hcs, htake⟩
  · by_cases hm : s.size = 0
    · exact .inl (by rw [hnil.2 ⟨rfl, hm⟩])
    · rw [run_append_nil_string (P := P) w t u ty e i (.int .u8 0) ht hu hi hz s (by omega) (by omega) (by rw [hby]; omega)] at hrun
      injection hrun with h1 h2
      subst h1
      exact .inr rfl
  · by_cases hroom : n + s.size ≤ cap
    · have hcs' : cur.size = cap := by simpa using hcs
      rw [run_append_room_string (P := P) w t u ty e i ht hu hi hsize g n cap cur hg s hroom (by omega)] at hrun
      injection hrun with h1 h2
      subst h1
      exact .inl rfl
    · rw [run_append_grow_string (P := P) w t u ty e i (.int .u8 0) ht hu hi hz ⟨g, 0, none⟩ n cap xs (by rw [hsize]; simpa using hxl) (hown.cells (g := g) rfl) s (by omega) (by omega) (by rw [hby]; exact growslice_fits (by omega) (by omega))] at hrun
      injection hrun with h1 h2
      subst h1
      exact .inr rfl
theorem wp_app_str {ops : Array Oper} {rest : List Oper} {o : Oper} {a : Act} {Q : Exit → Act → World → Prop} (hgd : o.guard = none) (sl x : Operand) (t u : TypeId)
    (ho : o.op = .call { callee := .builtin .append, args := #[sl, x], argTypes := #[t, u] })
    (base : Nat) (e : TypeId) (i : TypeInfo) (ht : P.underlying t = some (.slice e)) (hu : P.underlying u = some .string) (hi : P.info? e = some i) (hz : i.zero = some (.int .u8 0))
    (hsize : i.size = 1) (hby : i.bytes = 1)
    (v : Value) (n : Nat) (xs : List Value) (hs : a.eval sl = v) (hown : w.ownsRow base e 1 v n xs) (s : ByteArray) (hx : a.eval x = .string s)
    (h63 : n + s.size ≤ maxLen) (hbytes : n + s.size ≤ 140737488355328) (hbase : base ≤ w.heap.size)
    (h : ∀ v' w', w'.ownsRow base e 1 v' (n + s.size) (xs ++ strCells s) → w.grownBy w' v.ownBlock → (v'.ownBlock = v.ownBlock ∨ v'.ownBlock = some w.heap.size) → wpList P ops Q rest (a.put o.dst v') w') : wpList P ops Q (o :: rest) a w := by
  refine wpList_plain hgd fun K hK => ?_
  obtain ⟨v', w', hr, h2, h3, h4⟩ := run_append_own_string (P := P) w base t u o.type e i ht hu hi hz hsize hby v n xs hown s h63 hbytes hbase
  have h5 := app_str_block base t u o.type e i ht hu hi hz hsize hby v n xs hown s hbytes hr h4
  unfold Oper.wp execOp
  simp only [ho, resolve, invoke, builtin, Sem.run_bind, Sem.run_pure, Result.andThen_ok, List.map_toArray, List.map_cons, List.map_nil, hs, hx, hr]
  exact hK _ _ (h v' w' h2 h3 h5)
end
set_option maxHeartbeats 8000000 in
theorem impl_put (g base : Nat) (J : List UInt8) (v : Value) (ts : List (List UInt8)) (b off c : Nat) (w : World) (hg : g < base) (hb : base ≤ w.heap.size) (hw : Wrt w g base J v)
    (hc : ∀ (j : Nat) t, ts[j]? = some t → w.cell? ⟨b, off + j, none⟩ = some (.string ⟨t.toArray⟩)) (hne : b ≠ g) (hnv : v.ownBlock ≠ some b) (hn : ts.length ≤ 1048576) (hl : J.length + ts.flatten.length ≤ 1000000000) :
    Calls Tryd.prog 32 #[.pointer (some ⟨g, 0, none⟩), .slice (some ⟨b, off, none⟩) ts.length c] w
      (fun e w' => e = .returned (.tuple #[]) ∧ ∃ v', Wrt w' g base (J ++ ts.flatten) v' ∧ (v'.ownBlock = v.ownBlock ∨ ∃ q, v'.ownBlock = some q ∧ w.heap.size ≤ q) ∧ Puts g v.ownBlock w w') := by
  obtain ⟨iU, hiU, hzU, hsU, hbU⟩ := info_parts info_u8
  have HI := Lib.hid (⟨hiU, hzU, hsU, hbU⟩ : _ ∧ _ ∧ _ ∧ _)
  have HC := Lib.hid hc
  have HW0 := Lib.hid (show Wrt w g base (J ++ (ts.take 0).flatten) v by simpa using hw)
  have HF := Lib.hid (flatt_le ts)
  clear hc hw hiU hzU hsU hbU
  go_enter Tryd.func32, Tryd.ntmps32
  go_wp2_with fail
  go_loopg [8] ts.length (fun gg i wr => ∃ (k : Nat) (v' : Value), k ≤ ts.length ∧ ts.length - k ≤ gg ∧ i = .int .i64 k ∧ Hid (Wrt wr g base (J ++ (ts.take k).flatten) v') ∧ Hid (v'.ownBlock = v.ownBlock ∨ ∃ q, v'.ownBlock = some q ∧ w.heap.size ≤ q) ∧ Hid (Puts g v.ownBlock w wr))
  case atStart => exact ⟨0, v, Nat.zero_le _, by omega, rfl, HW0, Lib.hid (.inl rfl), Lib.hid (Puts.refl _ _ _)⟩
  case round =>
    obtain ⟨k, v', hk, hgg, rfl, HW, HV, HP⟩ := hrel
    clear HW0
    have HSz := Lib.hid (show base ≤ wr.heap.size by have := HP.out.size; omega)
    by_cases hlt : k < ts.length
    · obtain ⟨t, HZ⟩ : ∃ t, Hid (ts[k]? = some t) := ⟨ts[k]'hlt, Lib.hid (List.getElem?_eq_getElem hlt)⟩
      have c0 : wr.cell? ⟨b, off + k, none⟩ = some (.string ⟨t.toArray⟩) := by
        have h0 := HC.out k t HZ.out
        exact (World.cell?_of_block (a := ⟨b, off + k, none⟩) (HP.out.block b (World.block_lt_of_cell? _ _ h0) hne hnv)).trans h0
      have HN := Lib.hid (show (J ++ (ts.take k).flatten).length + t.length ≤ 1000000000 by
        have h1 := HF.out (k + 1)
        rw [flatt_snoc HZ.out, List.length_append] at h1
        rw [List.length_append]
        omega)
      have HE := Lib.hid (flatt_snoc HZ.out)
      clear HZ
      generalize hJ : (J ++ (ts.take k).flatten) = K at HW HN
      have HJ := Lib.hid hJ
      clear hJ
      obtain ⟨A1, c1, rfl⟩ := own_slice HW.out.2
      have e0 := HW.out.1.at_ (j := 0) rfl
      have f0 := HW.out.1.free 0
      have hgl := HW.out.1.lt
      go_wp2_with (at_builtin; go_loud (refine wp_app_str rfl _ _ _ _ rfl base 5 iU Tryd.underlying52 Tryd.underlying9 HI.out.1 HI.out.2.1 HI.out.2.2.1 HI.out.2.2.2 _ _ _ rfl HW.out.2 ⟨t.toArray⟩ rfl (by have := HN.out; unfold maxLen; simp only [ByteArray.size_mk', List.size_toArray]; omega) (by have := HN.out; simp only [ByteArray.size_mk', List.size_toArray]; omega) HSz.out ?_); intro v2 w2 ho2 hg2 hv2; obtain ⟨A2, c2, rfl⟩ := own_slice ho2; have HV3 := Lib.hid hv2; clear hv2; have KB2 := Lib.hid (HW.out.1.keep (hg2.block g hgl (fun e => by have := (HW.out.2.lt g e.symm).1; omega))); have e2 := KB2.out.at_ (j := 0) rfl; have f2 := KB2.out.free 0; have HO2 := Lib.hid (show w2.ownsRow base 5 1 (.slice A2 (K.length + t.length) c2) (K.length + t.length) (byteCells K ++ byteCells t) from ho2); have HG2 := Lib.hid hg2; clear ho2 hg2 e0 f0 c0; have hg3 : g < w2.heap.size := KB2.out.lt)
      have HW2 : Hid (Wrt (w2.setCell ⟨g, 0, none⟩ (.slice A2 (K.length + t.length) c2)) g base (J ++ (ts.take (k + 1)).flatten) (.slice A2 (K.length + t.length) c2)) := Lib.hid (by
        refine ⟨bx_cell KB2.out, ?_⟩
        have h1 := own_setfar (j := 0) (u := .slice A2 (K.length + t.length) c2) HO2.out hg
        rw [HE.out, ← List.append_assoc, HJ.out, byteCells_append, List.length_append]
        exact h1)
      have HP2 := Lib.hid (HP.out.more HV.out (puts_step HG2.out (.slice A2 (K.length + t.length) c2)))
      have HV2 : Hid ((Value.slice A2 (K.length + t.length) c2).ownBlock = v.ownBlock ∨ ∃ q, (Value.slice A2 (K.length + t.length) c2).ownBlock = some q ∧ w.heap.size ≤ q) := Lib.hid (by
        rcases HV3.out with h | h
        · rw [show (Value.slice A2 (K.length + t.length) c2).ownBlock = _ from h]; exact HV.out
        · exact .inr ⟨_, h, HP.out.size⟩)
      go_roundg (ts.length - (k + 1))
      case measure => omega
      case rel => exact ⟨k + 1, _, by omega, by omega, by go_num, HW2, HV2, HP2⟩
    · obtain rfl : k = ts.length := by omega
      have HWe := HW.out
      rw [List.take_length] at HWe
      replace HWe := Lib.hid HWe
      go_wp2_with fail
      refine bodyPost_end (v := .tuple #[]) (by simp [results, Tryd.results32, go_sem]) rfl ?_
      exact ⟨rfl, v', HWe.out, HV.out, HP.out⟩
theorem nums_str (J : List UInt8) : strOfNums (J.map fun b => (b.toNat : Int)) = ⟨J.toArray⟩ := by
  unfold strOfNums
  rw [List.map_map]
  have : ((fun n : Int => UInt8.ofNat n.toNat) ∘ fun b : UInt8 => (b.toNat : Int)) = id := by funext b; simp
  rw [this, List.map_id]
theorem impl_text (g base : Nat) (J : List UInt8) (v : Value) (w : World) (hw : Wrt w g base J v) : Calls Tryd.prog 34 #[.pointer (some ⟨g, 0, none⟩)] w (fun e w' => e = .returned (.string ⟨J.toArray⟩) ∧ w = w') := by
  have hcv : (convert 52 9 v).run Tryd.prog w = .ok (.string ⟨J.toArray⟩) w := by
    rcases hw.2.2 with ⟨rfl, h0⟩ | ⟨q, cap, cur, rfl, _, hh, hnc, hcm, hcs, htake⟩
    · have : J = [] := List.eq_nil_of_length_eq_zero h0
      subst this
      exact run_convert_bytes_nil (P := Tryd.prog) w 52 5 Tryd.underlying52 Tryd.underlying5 0 0 9 Tryd.underlying9
    · rw [run_convert_bytes_arg (P := Tryd.prog) w 52 5 Tryd.underlying52 Tryd.underlying5 q 0 J.length cap (J.map fun b => (b.toNat : Int)) (by simp) (fun i hi => by
        rw [Nat.zero_add, cell_of_row w q i cur 5 (0, 0) hh]
        have h1 : (byteCells J)[i]? = some (.int .u8 ((J[i]'hi).toNat : Int)) := by unfold byteCells; rw [List.getElem?_map, List.getElem?_eq_getElem hi]; rfl
        rw [← htake, List.getElem?_take] at h1
        split at h1
        · rw [← Array.getElem?_toList, h1]
          simp [hi]
        · cases h1) 9 Tryd.underlying9, nums_str]
  obtain ⟨A1, c1, rfl⟩ := own_slice hw.2
  have e0 := hw.1.at_ (j := 0) rfl
  have hgl := hw.1.lt
  clear hw
  go_enter Tryd.func34, Tryd.ntmps34
  go_wp2_with fail
  go_ret
  exact ⟨rfl, rfl⟩

end Go.Proofs.YtpefeihpoafkdaaDoor
