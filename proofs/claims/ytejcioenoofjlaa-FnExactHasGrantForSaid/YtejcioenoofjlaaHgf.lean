/- HasGrantFor, of the program and of the model. No condition but the length. -/
import Derived.Test.YtejcioenoofjlaaGrant
import Derived.Test.YtejcioenoofjlaaMapB
import Derived.Test.YtejcioenoofjlaaB2I
import Derived.Test.YtejcioenoofjlaaReg
import Derived.Deep.LoopGhost
namespace Go.Proofs.Ytejcioenoofjlaa
open Go Go.ChangeShapes Go.WideShapes Go.ChangeAt Go.RowKit Go.Lib Go.Maps
open Go.ChangeMaps (setBlock heap_setBlock_same)
open Go.MapKept (stamped_empty)
set_option linter.unusedVariables false
set_option linter.unusedSimpArgs false
set_option maxRecDepth 100000
def pHG (kind o : Int) (x : TGrant) : Bool := mIsGrant x && (x.f3 == kind && (x.f1 == o || x.f1 == 0))
def mHG (l : List TGrant) (kind o : Int) : Bool := l.any (pHG kind o)
theorem any_snoc {α : Type} {p : α → Bool} {l : List α} {k : Nat} {x : α} (hz : l[k]? = some x) : (l.take (k + 1)).any p = ((l.take k).any p || p x) := by
  rw [List.take_add_one, hz, Option.toList_some, List.any_append]
  simp
/-- The datum of a map that holds o or nothing. -/
def mOpen (o : Int) (f : Bool) : DataW Unit := .map (if f then [(.int .i64 o, .lit (.bool true))] else [])
theorem mOpen_del (o k : Int) (f : Bool) : (mOpen o f).del (.int .i64 k) = mOpen o (f && !(k == o)) := by
  cases f
  · rfl
  · by_cases h : k = o
    · subst h; simp [mOpen, DataW.del, Lit.sameKey]
    · have h2 : ¬ o = k := fun e => h e.symm
      simp [mOpen, DataW.del, Lit.sameKey, h, h2]
theorem mOpen_size (o : Int) (f : Bool) : Maps.size (mOpen o f) = if f then 1 else 0 := by cases f <;> rfl
def OneM (w : World) (b : Nat) (o : Int) (f : Bool) : Prop := w.ownsMap Try.prog 3 (plainElem Try.prog 4) b 1 (mOpen o f)
section
variable {w w' : World} {b : Nat} {o : Int} {f : Bool}
theorem OneM.lt (h : OneM w b o f) : b < w.heap.size := World.ownsMap.lt h
theorem OneM.keep (h : OneM w b o f) (e : w'.heap[b]? = w.heap[b]?) : OneM w' b o f := by
  obtain ⟨es, clock, hb, hF⟩ := h
  exact ⟨es, clock, e.trans hb, hF⟩
theorem OneM.new (h : OneM w b o f) (hb : Below w.heap.size w w') : OneM w' b o f := h.keep (hb.block b h.lt)
theorem oneM_made (w : World) (o : Int) : OneM (w.alloc (.map #[] 0)) w.heap.size o false := World.ownsMap.mono (World.ownsMap_made w _ _ _) (Nat.zero_le _)
end
section
variable {w : World} {ops : Array Oper} {rest : List Oper} {q : Oper} {a : Act} {Q : Exit → Act → World → Prop}
theorem wp_one_put (hg : q.guard = none) (m x v : Operand) (t : TypeId) (hop : q.op = Op.mapUpdate t m x v) (ht : Try.prog.underlying t = some (.map 3 4)) (b : Nat) (hm : a.eval m = .map (some b))
    (h : w.ownsMap Try.prog 3 (plainElem Try.prog 4) b 0 (.map [] : DataW Unit)) (id : Int) (hx : a.eval x = .int .i64 id) (hv : a.eval v = .bool true) (hw : (Lit.int .i64 id).wf = true)
    (hK : ∀ w', OneM w' b id true → w.grownBy w' (some b) → wpList Try.prog ops Q rest (a.put q.dst undef) w') : wpList Try.prog ops Q (q :: rest) a w :=
  wpList_mapUpdate_own w hg m x v t hop 3 4 keyed_int ht _ b 0 (.map []) hm h (by unfold maxLen; omega) (.int .i64 id) (.bool true) (.int .i64 id) hx hv (keyOf_int_mk Try.underlying3 hw) (.lit (.bool true)) [] (plainElem_bool Try.underlying4 true)
    (fun w' h4 h5 => hK w' h4 h5)
theorem wp_one_del (hg : q.guard = none) (m x : Operand) (t : TypeId) (hop : q.op = Op.call { callee := Callee.builtin Builtin.delete, args := #[m, x], argTypes := #[t, 3] }) (ht : Try.prog.underlying t = some (.map 3 4)) (b : Nat) (hm : a.eval m = .map (some b))
    (o : Int) (f : Bool) (h : OneM w b o f) (id : Int) (hx : a.eval x = .int .i64 id) (hw : (Lit.int .i64 id).wf = true)
    (hK : ∀ w', OneM w' b o (f && !(id == o)) → w.grownBy w' (some b) → wpList Try.prog ops Q rest (a.put q.dst (.tuple #[])) w') : wpList Try.prog ops Q (q :: rest) a w :=
  wpList_delete_own w hg m x t 3 hop 4 keyed_int ht _ b 1 (mOpen o f) hm h (.int .i64 id) (.int .i64 id) hx (keyOf_int_mk Try.underlying3 hw)
    (fun w' h4 h5 => hK w' (by rw [mOpen_del] at h4; exact h4) h5.grown)
theorem wp_one_clear (hg : q.guard = none) (m : Operand) (t : TypeId) (hop : q.op = Op.call { callee := Callee.builtin Builtin.clear, args := #[m], argTypes := #[t] }) (ht : Try.prog.underlying t = some (.map 3 4)) (b : Nat) (hm : a.eval m = .map (some b))
    (o : Int) (f : Bool) (h : OneM w b o f)
    (hK : ∀ w', OneM w' b o false → w.grownBy w' (some b) → wpList Try.prog ops Q rest (a.put q.dst (.tuple #[])) w') : wpList Try.prog ops Q (q :: rest) a w := by
  obtain ⟨es, clock, hb, hF, hs, hD⟩ := h
  have hrun : ∀ ty, (Builtin.clear_ #[t] ty #[.map (some b)]).run Try.prog w = .ok (.tuple #[]) (setBlock w b (.map #[] clock)) := fun ty => by
    simp [Builtin.clear_, run_underlying ht, MapKept.run_getObj_map hb, MapKept.run_setObj_map _ hb, Result.andThen, setBlock]
  refine wpList_plain hg fun K' hK' => ?_
  unfold Oper.wp
  simp [execOp, hop, resolve, invoke, builtin, hm, hrun, Result.andThen]
  refine hK' _ _ (hK _ ⟨#[], clock, heap_setBlock_same hb _, ⟨by simp, stamped_empty clock, by simp⟩, Nat.zero_le _, rfl⟩ (World.mapTurned.grown ⟨es, clock, #[], clock, hb, rfl⟩))
theorem wp_one_len (hg : q.guard = none) (m : Operand) (t : TypeId) (hop : q.op = Op.call { callee := Callee.builtin Builtin.len, args := #[m], argTypes := #[t] }) (ht : Try.prog.underlying t = some (.map 3 4)) (b : Nat) (hm : a.eval m = .map (some b))
    (o : Int) (f : Bool) (h : OneM w b o f) (hK : wpList Try.prog ops Q rest (a.put q.dst (.int .i64 (if f then 1 else 0))) w) : wpList Try.prog ops Q (q :: rest) a w :=
  wpList_len_own w hg m t hop 3 4 ht _ b 1 (mOpen o f) hm h (by rw [mOpen_size]; cases f <;> exact hK)
end
set_option maxHeartbeats 8000000 in
theorem impl_openOwners1 (l : List TGrant) (A : Option Addr) (n c lo hi : Nat) (a1 a2 : Int) (A2 : Option Addr) (c2 lo2 hi2 : Nat) (w : World) (hn : n ≤ 1048576) (hr : Rd w lo hi 7 A n (cGrant l)) (H : Hid (cGrantOk l)) (hr2 : Rd w lo2 hi2 1 A2 1 (i64s [a2])) (w2 : (Lit.int .i64 a2).wf = true) :
    Calls Try.prog 98 #[.slice A n c, .int .i64 a1, .slice A2 1 c2] w (fun e w' => ∃ b, e = .returned (.map (some b)) ∧ OneM w' b a2 (!mHG l a1 a2) ∧ Below w.heap.size w w') := by
  have HT : Hid (Try.prog.underlying 158 = some (.map 3 4)) := Lib.hid Try.underlying158
  have hmk : ∀ W, (Instr.makeMap 158 none).run Try.prog W = .ok (.map (some W.heap.size)) (W.alloc (.map #[] 0)) := make_map_none Try.underlying158
  have HL := Lib.hid (rd_len TGrant.len hr (by decide))
  have HR := Lib.hid hr
  have HR2 := Lib.hid hr2
  have HW := Lib.hid w2
  clear hr hr2 w2
  go_enter Try.func98, Try.ntmps98
  go_wp2_with fail
  go_loopg [15] 1 (fun gg i wr => ∃ k : Nat, k ≤ 1 ∧ 1 - k ≤ gg ∧ i = .int .i64 k ∧ Hid (k = 0 → wr.ownsMap Try.prog 3 (plainElem Try.prog 4) w.heap.size 0 (.map [] : DataW Unit)) ∧ Hid (k = 1 → OneM wr w.heap.size a2 true) ∧ Hid (Below w.heap.size w wr))
  case atStart => exact ⟨0, Nat.zero_le _, by omega, rfl, Lib.hid (fun _ => World.ownsMap_made w _ _ _), Lib.hid (fun h => by cases h), Lib.hid ((Below.refl _ _).alloc (Nat.le_refl _) _)⟩
  case round =>
    obtain ⟨k, hk, hg, rfl, HM0, HM1, HB⟩ := hrel
    by_cases hlt : k < 1
    · obtain rfl : k = 0 := by omega
      obtain ⟨b, off, z, rfl, _, _, hz, hc⟩ := rd_int (HR2.out.new HB.out) hlt
      obtain rfl : a2 = z := by simpa using hz
      have c0 : wr.cell? ⟨b, off, none⟩ = some (.int .i64 a2) := by simpa using hc
      have HM := Lib.hid (HM0.out rfl)
      clear hz hc HM0 HM1
      go_wp2_with (at_mapUpdate; refine wp_one_put rfl _ _ _ _ rfl HT.out w.heap.size rfl HM.out a2 rfl rfl HW.out ?_; intro w2 hm2 hg2; have HM2 := Lib.hid hm2; have HB2 := Lib.hid (HB.out.grown hg2 HB.out.size (fun q hq => by injection hq with hq; omega)); clear hm2 hg2)
      go_roundg 0
      case measure => omega
      case rel => exact ⟨1, by omega, by omega, by go_num, Lib.hid (fun h => by cases h), Lib.hid (fun _ => HM2.out), HB2⟩
    · obtain rfl : k = 1 := by omega
      have HMs := Lib.hid (HM1.out rfl)
      have HBs := HB
      clear HM0 HM1 HB
      go_wp2_with fail
      go_loopg [24] n (fun gg i wr => ∃ k : Nat, k ≤ n ∧ n - k ≤ gg ∧ i = .int .i64 k ∧ Hid (OneM wr w.heap.size a2 (!(l.take k).any (pHG a1 a2))) ∧ Hid (Below w.heap.size w wr))
      case atStart => exact ⟨0, Nat.zero_le _, by omega, rfl, HMs, HBs⟩
      case round =>
        obtain ⟨k, hk, hg, rfl, HM, HB⟩ := hrel
        by_cases hlt : k < n
        · obtain ⟨b, off, x, rfl, _, _, hz, hc⟩ := rd_elem TGrant.len (HR.out.new HB.out) HL.out hlt
          have c0 : wr.cell? ⟨b, off + k * 7, none⟩ = some (.int .i64 x.f0) := hc 0 _ rfl
          have c1 : wr.cell? ⟨b, off + k * 7 + 1, none⟩ = some (.int .i64 x.f1) := hc 1 _ rfl
          have c2 : wr.cell? ⟨b, off + k * 7 + 2, none⟩ = some (.int .i64 x.f2) := hc 2 _ rfl
          have c3 : wr.cell? ⟨b, off + k * 7 + 3, none⟩ = some (.int .i64 x.f3) := hc 3 _ rfl
          have c4 : wr.cell? ⟨b, off + k * 7 + 4, none⟩ = some (.int .i64 x.f4) := hc 4 _ rfl
          have c5 : wr.cell? ⟨b, off + k * 7 + 5, none⟩ = some (.int .i64 x.f5) := hc 5 _ rfl
          have c6 : wr.cell? ⟨b, off + k * 7 + 6, none⟩ = some (.bool x.f6) := hc 6 _ rfl
          have HZ := Lib.hid hz
          have HWx := Lib.hid (show (Lit.int .i64 x.f1).wf = true from WalkArith.wf_i64 (H.out x (List.mem_of_getElem? hz)).2.1)
          have KX0 := Lib.hid (box_new wr 140 #[.int .i64 x.f0, .int .i64 x.f1, .int .i64 x.f2, .int .i64 x.f3, .int .i64 x.f4, .int .i64 x.f5, .bool x.f6])
          have hsw := HB.out.size
          clear hz hc
          cases h0 : mIsGrant x with
          | false =>
            have HE := Lib.hid (show (!(l.take (k + 1)).any (pHG a1 a2)) = (!(l.take k).any (pHG a1 a2)) from by rw [any_snoc HZ.out]; unfold pHG; rw [h0]; simp)
            have CI : Hid (Calls Try.prog 144 #[vGrant x] (wr.alloc (.cells #[.int .i64 x.f0, .int .i64 x.f1, .int .i64 x.f2, .int .i64 x.f3, .int .i64 x.f4, .int .i64 x.f5, .bool x.f6] 140)) (Says (.bool false) (wr.alloc (.cells #[.int .i64 x.f0, .int .i64 x.f1, .int .i64 x.f2, .int .i64 x.f3, .int .i64 x.f4, .int .i64 x.f5, .bool x.f6] 140)))) := Lib.hid (by have h := impl_IsGrant x (wr.alloc (.cells #[.int .i64 x.f0, .int .i64 x.f1, .int .i64 x.f2, .int .i64 x.f3, .int .i64 x.f4, .int .i64 x.f5, .bool x.f6] 140)); rwa [h0] at h)
            clear h0
            go_wp2_with fail
            refine CI.out.mono ?_
            rintro e w1 ⟨rfl, hb⟩
            clear CI c0 c1 c2 c3 c4 c5 c6
            have KX := Lib.hid (KX0.out.new hb)
            have HM1 := Lib.hid ((HM.out.keep (Below.heap_alloc _ _ _ (by have := HM.out.lt; omega))).new hb)
            have HB1 := Lib.hid (show Below w.heap.size w w1 from below_trans (HB.out.alloc HB.out.size _) hb (Nat.le_refl _))
            have hsz := hb.size
            (try simp at hsz)
            clear hb KX0
            have k0 := KX.out.at_ (j := 0) rfl
            have k1 := KX.out.at_ (j := 1) rfl
            have k2 := KX.out.at_ (j := 2) rfl
            have k3 := KX.out.at_ (j := 3) rfl
            have k4 := KX.out.at_ (j := 4) rfl
            have k5 := KX.out.at_ (j := 5) rfl
            have k6 := KX.out.at_ (j := 6) rfl
            go_wp2_with fail
            go_roundg (n - (k + 1))
            case measure => omega
            case rel => exact ⟨k + 1, by omega, by omega, by go_num, Lib.hid (by rw [HE.out]; exact HM1.out), HB1⟩
          | true =>
            cases h1 : x.f3 == a1 with
            | false =>
              have HE := Lib.hid (show (!(l.take (k + 1)).any (pHG a1 a2)) = (!(l.take k).any (pHG a1 a2)) from by rw [any_snoc HZ.out]; unfold pHG; rw [h0, h1]; simp)
              have CI : Hid (Calls Try.prog 144 #[vGrant x] (wr.alloc (.cells #[.int .i64 x.f0, .int .i64 x.f1, .int .i64 x.f2, .int .i64 x.f3, .int .i64 x.f4, .int .i64 x.f5, .bool x.f6] 140)) (Says (.bool true) (wr.alloc (.cells #[.int .i64 x.f0, .int .i64 x.f1, .int .i64 x.f2, .int .i64 x.f3, .int .i64 x.f4, .int .i64 x.f5, .bool x.f6] 140)))) := Lib.hid (by have h := impl_IsGrant x (wr.alloc (.cells #[.int .i64 x.f0, .int .i64 x.f1, .int .i64 x.f2, .int .i64 x.f3, .int .i64 x.f4, .int .i64 x.f5, .bool x.f6] 140)); rwa [h0] at h)
              have e1 : (x.f3 != a1) = true := by have h : (x.f3 == a1) = false := h1; simp [bne, h]
              clear h0 h1
              go_wp2_with fail
              refine CI.out.mono ?_
              rintro e w1 ⟨rfl, hb⟩
              clear CI c0 c1 c2 c3 c4 c5 c6
              have KX := Lib.hid (KX0.out.new hb)
              have HM1 := Lib.hid ((HM.out.keep (Below.heap_alloc _ _ _ (by have := HM.out.lt; omega))).new hb)
              have HB1 := Lib.hid (show Below w.heap.size w w1 from below_trans (HB.out.alloc HB.out.size _) hb (Nat.le_refl _))
              have hsz := hb.size
              (try simp at hsz)
              clear hb KX0
              have k0 := KX.out.at_ (j := 0) rfl
              have k1 := KX.out.at_ (j := 1) rfl
              have k2 := KX.out.at_ (j := 2) rfl
              have k3 := KX.out.at_ (j := 3) rfl
              have k4 := KX.out.at_ (j := 4) rfl
              have k5 := KX.out.at_ (j := 5) rfl
              have k6 := KX.out.at_ (j := 6) rfl
              go_wp2_with fail
              go_roundg (n - (k + 1))
              case measure => omega
              case rel => exact ⟨k + 1, by omega, by omega, by go_num, Lib.hid (by rw [HE.out]; exact HM1.out), HB1⟩
            | true =>
              cases h2 : x.f1 == 0 with
              | false =>
                have HE := Lib.hid (show (!(l.take (k + 1)).any (pHG a1 a2)) = ((!(l.take k).any (pHG a1 a2)) && !(x.f1 == a2)) from by rw [any_snoc HZ.out]; have h2' : (x.f1 == 0) = false := h2; simp [pHG, h0, h1, h2'])
                have CI : Hid (Calls Try.prog 144 #[vGrant x] (wr.alloc (.cells #[.int .i64 x.f0, .int .i64 x.f1, .int .i64 x.f2, .int .i64 x.f3, .int .i64 x.f4, .int .i64 x.f5, .bool x.f6] 140)) (Says (.bool true) (wr.alloc (.cells #[.int .i64 x.f0, .int .i64 x.f1, .int .i64 x.f2, .int .i64 x.f3, .int .i64 x.f4, .int .i64 x.f5, .bool x.f6] 140)))) := Lib.hid (by have h := impl_IsGrant x (wr.alloc (.cells #[.int .i64 x.f0, .int .i64 x.f1, .int .i64 x.f2, .int .i64 x.f3, .int .i64 x.f4, .int .i64 x.f5, .bool x.f6] 140)); rwa [h0] at h)
                have e1 : (x.f3 != a1) = false := by have h : (x.f3 == a1) = true := h1; simp [bne, h]
                have e2 : (x.f1 == 0) = false := h2
                clear h0 h1 h2
                go_wp2_with fail
                refine CI.out.mono ?_
                rintro e w1 ⟨rfl, hb⟩
                clear CI c0 c1 c2 c3 c4 c5 c6
                have KX := Lib.hid (KX0.out.new hb)
                have HM1 := Lib.hid ((HM.out.keep (Below.heap_alloc _ _ _ (by have := HM.out.lt; omega))).new hb)
                have HB1 := Lib.hid (show Below w.heap.size w w1 from below_trans (HB.out.alloc HB.out.size _) hb (Nat.le_refl _))
                have hsz := hb.size
                (try simp at hsz)
                clear hb KX0
                have k0 := KX.out.at_ (j := 0) rfl
                have k1 := KX.out.at_ (j := 1) rfl
                have k2 := KX.out.at_ (j := 2) rfl
                have k3 := KX.out.at_ (j := 3) rfl
                have k4 := KX.out.at_ (j := 4) rfl
                have k5 := KX.out.at_ (j := 5) rfl
                have k6 := KX.out.at_ (j := 6) rfl
                go_wp2_with (at_delete; refine wp_one_del rfl _ _ _ rfl HT.out w.heap.size rfl a2 _ HM1.out x.f1 rfl HWx.out ?_; intro w3 hm3 hg3; have HM3 := Lib.hid hm3; have HB3 := Lib.hid (HB1.out.grown hg3 HB1.out.size (fun q hq => by injection hq with hq; omega)); clear hm3 hg3)
                go_roundg (n - (k + 1))
                case measure => omega
                case rel => exact ⟨k + 1, by omega, by omega, by go_num, Lib.hid (by rw [HE.out]; exact HM3.out), HB3⟩
              | true =>
                have HE := Lib.hid (show (!(l.take (k + 1)).any (pHG a1 a2)) = (false && !(x.f1 == a2)) from by rw [any_snoc HZ.out]; unfold pHG; rw [h0, h1, h2]; simp)
                have CI : Hid (Calls Try.prog 144 #[vGrant x] (wr.alloc (.cells #[.int .i64 x.f0, .int .i64 x.f1, .int .i64 x.f2, .int .i64 x.f3, .int .i64 x.f4, .int .i64 x.f5, .bool x.f6] 140)) (Says (.bool true) (wr.alloc (.cells #[.int .i64 x.f0, .int .i64 x.f1, .int .i64 x.f2, .int .i64 x.f3, .int .i64 x.f4, .int .i64 x.f5, .bool x.f6] 140)))) := Lib.hid (by have h := impl_IsGrant x (wr.alloc (.cells #[.int .i64 x.f0, .int .i64 x.f1, .int .i64 x.f2, .int .i64 x.f3, .int .i64 x.f4, .int .i64 x.f5, .bool x.f6] 140)); rwa [h0] at h)
                have e1 : (x.f3 != a1) = false := by have h : (x.f3 == a1) = true := h1; simp [bne, h]
                have e2 : (x.f1 == 0) = true := h2
                clear h0 h1 h2
                go_wp2_with fail
                refine CI.out.mono ?_
                rintro e w1 ⟨rfl, hb⟩
                clear CI c0 c1 c2 c3 c4 c5 c6
                have KX := Lib.hid (KX0.out.new hb)
                have HM1 := Lib.hid ((HM.out.keep (Below.heap_alloc _ _ _ (by have := HM.out.lt; omega))).new hb)
                have HB1 := Lib.hid (show Below w.heap.size w w1 from below_trans (HB.out.alloc HB.out.size _) hb (Nat.le_refl _))
                have hsz := hb.size
                (try simp at hsz)
                clear hb KX0
                have k0 := KX.out.at_ (j := 0) rfl
                have k1 := KX.out.at_ (j := 1) rfl
                have k2 := KX.out.at_ (j := 2) rfl
                have k3 := KX.out.at_ (j := 3) rfl
                have k4 := KX.out.at_ (j := 4) rfl
                have k5 := KX.out.at_ (j := 5) rfl
                have k6 := KX.out.at_ (j := 6) rfl
                have hbs := HM.out.lt
                go_wp2_with (first | (at_delete; refine wp_one_del rfl _ _ _ rfl HT.out w.heap.size rfl a2 false HM2.out x.f1 rfl HWx.out ?_; intro w3 hm3 hg3; have HM3 := Lib.hid hm3; have HB3 := Lib.hid (HB2.out.grown hg3 HB2.out.size (fun q hq => by injection hq with hq; omega)); clear hm3 hg3) | (refine wp_one_clear rfl _ _ rfl HT.out w.heap.size rfl a2 _ HM1.out ?_; intro w2 hm2 hg2; have HM2 := Lib.hid hm2; have HB2 := Lib.hid (HB1.out.grown hg2 HB1.out.size (fun q hq => by injection hq with hq; omega)); have KY := Lib.hid (KX.out.grown hg2 (by omega)); have y1 := KY.out.at_ (j := 1) rfl; clear hm2 hg2))
                go_roundg (n - (k + 1))
                case measure => omega
                case rel => exact ⟨k + 1, by omega, by omega, by go_num, Lib.hid (by rw [HE.out]; exact HM3.out), HB3⟩
        · obtain rfl : k = n := by omega
          have HE := Lib.hid (show OneM wr w.heap.size a2 (!mHG l a1 a2) by have h := HM.out; rwa [List.take_of_length_le (by rw [HL.out]; omega)] at h)
          go_wp2_with fail
          go_ret
          exact ⟨_, rfl, HE.out, HB.out⟩
theorem rd_boxh {w : World} {g : Nat} {t : TypeId} {cs : Array Value} (h : BoxAt w g t cs) (n : Nat) (hn : cs.size = n) : Rd w g (g + 1) 1 (some ⟨g, 0, none⟩) n cs.toList :=
  ⟨by simp [hn], fun _ => ⟨g, 0, rfl, Nat.le_refl _, Nat.lt_succ_self _, fun j u hu => by rw [Nat.zero_add]; exact h.at_ (by simpa using hu)⟩⟩
set_option maxHeartbeats 8000000 in
theorem impl_HasGrantFor (l : List TGrant) (A : Option Addr) (n c lo hi : Nat) (a1 a2 : Int) (w : World) (hn : n ≤ 1048576) (hr : Rd w lo hi 7 A n (cGrant l)) (H : Hid (cGrantOk l)) (w1 : (Lit.int .i64 a1).wf = true) (w2 : (Lit.int .i64 a2).wf = true) :
    Calls Try.prog 34 #[.slice A n c, .int .i64 a1, .int .i64 a2] w (Says (.bool (mHG l a1 a2)) w) := by
  have HT : Hid (Try.prog.underlying 158 = some (.map 3 4)) := Lib.hid Try.underlying158
  have HB0 := Lib.hid ((Below.refl w.heap.size w).alloc (Nat.le_refl _) (.cells #[.int .i64 a2] 3))
  have HC := Lib.hid (impl_openOwners1 l A n c _ _ a1 a2 _ 1 _ _ _ hn (hr.new HB0.out) H (rd_boxh (box_new w 3 #[.int .i64 a2]) 1 rfl) w2)
  clear hr w1 w2
  cases q : mHG l a1 a2 with
  | false =>
    rw [q] at HC
    clear q
    go_enter Try.func34, Try.ntmps34
    go_wp2_with fail
    refine HC.out.mono ?_
    rintro e w1 ⟨b, rfl, hm, hb⟩
    have HM := Lib.hid (show OneM w1 b a2 true from hm)
    have HB := Lib.hid (below_trans HB0.out hb (Nat.le_refl _))
    clear hm hb HC HB0
    go_wp2_with (at_len; refine wp_one_len rfl _ _ rfl HT.out b rfl a2 true HM.out ?_)
    go_ret
    exact ⟨rfl, HB.out⟩
  | true =>
    rw [q] at HC
    clear q
    go_enter Try.func34, Try.ntmps34
    go_wp2_with fail
    refine HC.out.mono ?_
    rintro e w1 ⟨b, rfl, hm, hb⟩
    have HM := Lib.hid (show OneM w1 b a2 false from hm)
    have HB := Lib.hid (below_trans HB0.out hb (Nat.le_refl _))
    clear hm hb HC HB0
    go_wp2_with (at_len; refine wp_one_len rfl _ _ rfl HT.out b rfl a2 false HM.out ?_)
    go_ret
    exact ⟨rfl, HB.out⟩
set_option maxHeartbeats 8000000 in
theorem spec_HasGrantFor (l : List TGrant) (A : Option Addr) (n c lo hi : Nat) (a1 a2 : Int) (w : World) (hn : n ≤ 1048576) (hr : Rd w lo hi 7 A n (cGrant l)) (H : Hid (cGrantOk l)) (w1 : (Lit.int .i64 a1).wf = true) (w2 : (Lit.int .i64 a2).wf = true) :
    Calls Try.prog 32 #[.slice A n c, .int .i64 a1, .int .i64 a2] w (Says (.bool (mHG l a1 a2)) w) := by
  have HL := Lib.hid (rd_len TGrant.len hr (by decide))
  have HR := Lib.hid hr
  clear hr w1 w2
  go_enter Try.func32, Try.ntmps32
  go_wp2_with fail
  go_loopg [7] n (fun gg i wr => ∃ k : Nat, k ≤ n ∧ n - k ≤ gg ∧ i = .int .i64 k ∧ Hid (Below w.heap.size w wr) ∧ Hid ((l.take k).any (pHG a1 a2) = false))
  case atStart => exact ⟨0, Nat.zero_le _, by omega, rfl, Lib.hid (Below.refl _ _), Lib.hid (by simp)⟩
  case round =>
    obtain ⟨k, hk, hg, rfl, HB, HF⟩ := hrel
    by_cases hlt : k < n
    · obtain ⟨b, off, x, rfl, _, _, hz, hc⟩ := rd_elem TGrant.len (HR.out.new HB.out) HL.out hlt
      have c0 : wr.cell? ⟨b, off + k * 7, none⟩ = some (.int .i64 x.f0) := hc 0 _ rfl
      have c1 : wr.cell? ⟨b, off + k * 7 + 1, none⟩ = some (.int .i64 x.f1) := hc 1 _ rfl
      have c2 : wr.cell? ⟨b, off + k * 7 + 2, none⟩ = some (.int .i64 x.f2) := hc 2 _ rfl
      have c3 : wr.cell? ⟨b, off + k * 7 + 3, none⟩ = some (.int .i64 x.f3) := hc 3 _ rfl
      have c4 : wr.cell? ⟨b, off + k * 7 + 4, none⟩ = some (.int .i64 x.f4) := hc 4 _ rfl
      have c5 : wr.cell? ⟨b, off + k * 7 + 5, none⟩ = some (.int .i64 x.f5) := hc 5 _ rfl
      have c6 : wr.cell? ⟨b, off + k * 7 + 6, none⟩ = some (.bool x.f6) := hc 6 _ rfl
      have HZ := Lib.hid hz
      clear hz hc
      cases h0 : mIsGrant x with
      | false =>
        have HP := Lib.hid (show pHG a1 a2 x = false by unfold pHG; rw [h0]; rfl)
        have CI := Lib.hid (fun W => spec_IsGrant x W)
        rw [h0] at CI
        clear h0
        go_wp2_with fail
        refine (CI.out _).mono ?_
        rintro e w1 ⟨rfl, hb⟩
        have d1 := cell_nw hb c1
        have d3 := cell_nw hb c3
        have HB1 := Lib.hid (below_trans HB.out hb (Nat.le_refl _))
        clear hb CI c0 c1 c2 c3 c4 c5 c6
        go_wp2_with fail
        go_roundg (n - (k + 1))
        case measure => omega
        case rel => exact ⟨k + 1, by omega, by omega, by go_num, HB1, Lib.hid (by rw [any_snoc HZ.out, HF.out, HP.out]; rfl)⟩
      | true =>
        cases h1 : x.f3 == a1 with
        | false =>
          have HP := Lib.hid (show pHG a1 a2 x = false by unfold pHG; rw [h0, h1]; rfl)
          have CI := Lib.hid (fun W => spec_IsGrant x W)
          rw [h0] at CI
          clear h0
          go_wp2_with fail
          refine (CI.out _).mono ?_
          rintro e w1 ⟨rfl, hb⟩
          have d1 := cell_nw hb c1
          have d3 := cell_nw hb c3
          have HB1 := Lib.hid (below_trans HB.out hb (Nat.le_refl _))
          clear hb CI c0 c1 c2 c3 c4 c5 c6
          go_wp2_with fail
          go_roundg (n - (k + 1))
          case measure => omega
          case rel => exact ⟨k + 1, by omega, by omega, by go_num, HB1, Lib.hid (by rw [any_snoc HZ.out, HF.out, HP.out]; rfl)⟩
        | true =>
          cases h2 : x.f1 == a2 with
          | true =>
            have HP := Lib.hid (show pHG a1 a2 x = true by unfold pHG; rw [h0, h1, h2]; rfl)
            have CI := Lib.hid (fun W => spec_IsGrant x W)
            rw [h0] at CI
            clear h0
            go_wp2_with fail
            refine (CI.out _).mono ?_
            rintro e w1 ⟨rfl, hb⟩
            have d1 := cell_nw hb c1
            have d3 := cell_nw hb c3
            have HB1 := Lib.hid (below_trans HB.out hb (Nat.le_refl _))
            clear hb CI c0 c1 c2 c3 c4 c5 c6
            go_wp2_with fail
            go_ret
            exact ⟨by rw [show mHG l a1 a2 = true from List.any_eq_true.2 ⟨x, List.mem_of_getElem? HZ.out, HP.out⟩]; rfl, HB1.out⟩
          | false =>
            cases h3 : x.f1 == 0 with
            | true =>
              have HP := Lib.hid (show pHG a1 a2 x = true by unfold pHG; rw [h0, h1, h2, h3]; rfl)
              have CI := Lib.hid (fun W => spec_IsGrant x W)
              rw [h0] at CI
              clear h0
              go_wp2_with fail
              refine (CI.out _).mono ?_
              rintro e w1 ⟨rfl, hb⟩
              have d1 := cell_nw hb c1
              have d3 := cell_nw hb c3
              have HB1 := Lib.hid (below_trans HB.out hb (Nat.le_refl _))
              clear hb CI c0 c1 c2 c3 c4 c5 c6
              go_wp2_with fail
              go_ret
              exact ⟨by rw [show mHG l a1 a2 = true from List.any_eq_true.2 ⟨x, List.mem_of_getElem? HZ.out, HP.out⟩]; rfl, HB1.out⟩
            | false =>
              have HP := Lib.hid (show pHG a1 a2 x = false by unfold pHG; rw [h0, h1, h2, h3]; rfl)
              have CI := Lib.hid (fun W => spec_IsGrant x W)
              rw [h0] at CI
              clear h0
              go_wp2_with fail
              refine (CI.out _).mono ?_
              rintro e w1 ⟨rfl, hb⟩
              have d1 := cell_nw hb c1
              have d3 := cell_nw hb c3
              have HB1 := Lib.hid (below_trans HB.out hb (Nat.le_refl _))
              clear hb CI c0 c1 c2 c3 c4 c5 c6
              go_wp2_with fail
              go_roundg (n - (k + 1))
              case measure => omega
              case rel => exact ⟨k + 1, by omega, by omega, by go_num, HB1, Lib.hid (by rw [any_snoc HZ.out, HF.out, HP.out]; rfl)⟩
    · obtain rfl : k = n := by omega
      have HE := Lib.hid (show mHG l a1 a2 = false by have h := HF.out; rwa [List.take_of_length_le (by rw [HL.out]; omega)] at h)
      go_wp2_with fail
      go_ret
      exact ⟨by rw [HE.out]; rfl, HB.out⟩
end Go.Proofs.Ytejcioenoofjlaa
