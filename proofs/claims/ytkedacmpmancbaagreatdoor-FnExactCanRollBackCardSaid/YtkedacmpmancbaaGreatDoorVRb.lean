/- Hgf, SetM, Opn, ARch, Toption, Narrower, Rch, RvName, what is needed of it. -/
import Derived.Test.YtkedacmpmancbaaGreatDoorVFrame
import Derived.Test.YtkedacmpmancbaaGreatDoorVGrant
import Derived.Test.YtkedacmpmancbaaGreatDoorVNa
import Derived.Test.YtkedacmpmancbaaGreatDoorVB2I
import Derived.Test.YtkedacmpmancbaaGreatDoorVReg
import Derived.Deep.LoopGhost
import Derived.Test.YtkedacmpmancbaaGreatDoorVHash
import Derived.Test.YtkedacmpmancbaaGreatDoorVTRule
import Derived.Test.YtkedacmpmancbaaGreatDoorVFun
import Derived.Test.YtkedacmpmancbaaGreatDoorVRws
import Derived.StillTailTactics
import Derived.Test.YtkedacmpmancbaaGreatDoorVRgn
import Derived.Test.YtkedacmpmancbaaGreatDoorVSite
import Derived.Deep.RegionHeld3
import Derived.Deep.DeepCutAuto
import Derived.Test.YtkedacmpmancbaaGreatDoorVTGrant
import Derived.Test.YtkedacmpmancbaaGreatDoorVIn
import Derived.Test.YtkedacmpmancbaaGreatDoorVEFrame
namespace Go.Proofs.YtkedacmpmancbaaGreatDoor
open Go Go.ChangeShapes Go.WideShapes Go.ChangeAt Go.RowKit Go.Lib Go.Maps
open Go.ChangeMaps (setBlock heap_setBlock_same)
open Go.MapKept (stamped_empty)
set_option linter.unusedVariables false
set_option linter.unusedSimpArgs false
set_option maxRecDepth 100000
def pHG (kind o : Int) (x : TGrant) : Bool := mIsGrant x && (x.f3 == kind && (x.f1 == o || x.f1 == 0))
def mHG (l : List TGrant) (kind o : Int) : Bool := l.any (pHG kind o)
theorem any_snoc {α : Type} {p : α → Bool} {l : List α} {k : Nat} {x : α} (hz : l[k]? = some x) : (l.take (k + 1)).any p = ((l.take k).any p || p x) := by
 rw [List.take_add_one, hz, Option.toList_some, List.any_append]
 simp
/-- The datum of a map that holds o or nothing. -/
def mOpen (o : Int) (f : Bool) : DataW Unit := .map (if f then [(.int .i64 o, .lit (.bool true))] else [])
def OneM (w : World) (b : Nat) (o : Int) (f : Bool) : Prop := w.ownsMap Tryz.prog 3 (plainElem Tryz.prog 4) b 1 (mOpen o f)
section
variable {w w' : World} {b : Nat} {o : Int} {f : Bool}
theorem OneM.lt (h : OneM w b o f) : b < w.heap.size := World.ownsMap.lt h
theorem OneM.keep (h : OneM w b o f) (e : w'.heap[b]? = w.heap[b]?) : OneM w' b o f := by
 obtain ⟨es, clock, hb, hF⟩ := h
 exact ⟨es, clock, e.trans hb, hF⟩
theorem OneM.new (h : OneM w b o f) (hb : Below w.heap.size w w') : OneM w' b o f := h.keep (hb.block b h.lt)
end
set_option maxHeartbeats 8000000 in
theorem spec_HasGrantFor (l : List TGrant) (A : Option Addr) (n c lo hi : Nat) (a1 a2 : Int) (w : World) (hn : n ≤ 1048576) (hr : Rd w lo hi 7 A n (cGrant l)) (H : Hid (cGrantOk l)) (w1 : (Lit.int .i64 a1).wf = true) (w2 : (Lit.int .i64 a2).wf = true) :
  Calls Tryz.prog 123 #[.slice A n c, .int .i64 a1, .int .i64 a2] w (Says (.bool (mHG l a1 a2)) w) := by
 have HL := Lib.hid (rd_len TGrant.len hr (by decide))
 have HR := Lib.hid hr
 clear hr w1 w2
 go_enter Tryz.func123, Tryz.ntmps123
 go_wp2_with fail
 go_loopg [7] n (fun gg i wr => ∃ k : Nat, k ≤ n ∧ n - k ≤ gg ∧ i = .int .i64 k ∧ Hid (Below w.heap.size w wr) ∧ Hid ((l.take k).any (pHG a1 a2) = false))
 case atStart => exact ⟨0, Nat.zero_le _, by omega, rfl, Lib.hid (Below.refl _ _), Lib.hid (by simp)⟩
 case round =>
  obtain ⟨k, hk, hg, rfl, HB, HF⟩ := hrel
  by_cases hlt : k < n
  ·
   obtain ⟨b, off, x, rfl, _, _, hz, hc⟩ := rd_elem TGrant.len (HR.out.new HB.out) HL.out hlt
   have c0 : wr.cell? ⟨b, off + k * 7, none⟩ = some (.int .i64 x.f0) := hc 0 _ rfl
   have c1 : wr.cell? ⟨b, off + k * 7 + 1, none⟩ = some (.int .i64 x.f1) := hc 1 _ rfl
   have c2 : wr.cell? ⟨b, off + k * 7 + 2, none⟩ = some (.int .i64 x.f2) := hc 2 _ rfl
   have c3 : wr.cell? ⟨b, off + k * 7 + 3, none⟩ = some (.int .i64 x.f3) := hc 3 _ rfl
   have c4 : wr.cell? ⟨b, off + k * 7 + 4, none⟩ = some (.int .i64 x.f4) := hc 4 _ rfl
   have c5 : wr.cell? ⟨b, off + k * 7 + 5, none⟩ = some (.int .i64 x.f5) := hc 5 _ rfl
   have c6 : wr.cell? ⟨b, off + k * 7 + 6, none⟩ = some (.bool x.f6) := hc 6 _ rfl
   have HZ := Lib.hid hz
   clear hz hc
   cases h0 : mIsGrant x with
   | false =>
    have HP := Lib.hid (show pHG a1 a2 x = false by unfold pHG; rw [h0]; rfl)
    have CI := Lib.hid (fun W => spec_IsGrant x W)
    rw [h0] at CI
    clear h0
    go_wp2_with fail
    refine (CI.out _).mono ?_
    rintro e w1 ⟨rfl, hb⟩
    have d1 := cell_nw hb c1
    have d3 := cell_nw hb c3
    have HB1 := Lib.hid (below_trans HB.out hb (Nat.le_refl _))
    clear hb CI c0 c1 c2 c3 c4 c5 c6
    go_wp2_with fail
    go_roundg (n - (k + 1))
    case measure => omega
    case rel => exact ⟨k + 1, by omega, by omega, by go_num, HB1, Lib.hid (by rw [any_snoc HZ.out, HF.out, HP.out]; rfl)⟩
   | true =>
    cases h1 : x.f3 == a1 with
    | false =>
     have HP := Lib.hid (show pHG a1 a2 x = false by unfold pHG; rw [h0, h1]; rfl)
     have CI := Lib.hid (fun W => spec_IsGrant x W)
     rw [h0] at CI
     clear h0
     go_wp2_with fail
     refine (CI.out _).mono ?_
     rintro e w1 ⟨rfl, hb⟩
     have d1 := cell_nw hb c1
     have d3 := cell_nw hb c3
     have HB1 := Lib.hid (below_trans HB.out hb (Nat.le_refl _))
     clear hb CI c0 c1 c2 c3 c4 c5 c6
     go_wp2_with fail
     go_roundg (n - (k + 1))
     case measure => omega
     case rel => exact ⟨k + 1, by omega, by omega, by go_num, HB1, Lib.hid (by rw [any_snoc HZ.out, HF.out, HP.out]; rfl)⟩
    | true =>
     cases h2 : x.f1 == a2 with
     | true =>
      have HP := Lib.hid (show pHG a1 a2 x = true by unfold pHG; rw [h0, h1, h2]; rfl)
      have CI := Lib.hid (fun W => spec_IsGrant x W)
      rw [h0] at CI
      clear h0
      go_wp2_with fail
      refine (CI.out _).mono ?_
      rintro e w1 ⟨rfl, hb⟩
      have d1 := cell_nw hb c1
      have d3 := cell_nw hb c3
      have HB1 := Lib.hid (below_trans HB.out hb (Nat.le_refl _))
      clear hb CI c0 c1 c2 c3 c4 c5 c6
      go_wp2_with fail
      go_ret
      exact ⟨by rw [show mHG l a1 a2 = true from List.any_eq_true.2 ⟨x, List.mem_of_getElem? HZ.out, HP.out⟩]; rfl, HB1.out⟩
     | false =>
      cases h3 : x.f1 == 0 with
      | true =>
       have HP := Lib.hid (show pHG a1 a2 x = true by unfold pHG; rw [h0, h1, h2, h3]; rfl)
       have CI := Lib.hid (fun W => spec_IsGrant x W)
       rw [h0] at CI
       clear h0
       go_wp2_with fail
       refine (CI.out _).mono ?_
       rintro e w1 ⟨rfl, hb⟩
       have d1 := cell_nw hb c1
       have d3 := cell_nw hb c3
       have HB1 := Lib.hid (below_trans HB.out hb (Nat.le_refl _))
       clear hb CI c0 c1 c2 c3 c4 c5 c6
       go_wp2_with fail
       go_ret
       exact ⟨by rw [show mHG l a1 a2 = true from List.any_eq_true.2 ⟨x, List.mem_of_getElem? HZ.out, HP.out⟩]; rfl, HB1.out⟩
      | false =>
       have HP := Lib.hid (show pHG a1 a2 x = false by unfold pHG; rw [h0, h1, h2, h3]; rfl)
       have CI := Lib.hid (fun W => spec_IsGrant x W)
       rw [h0] at CI
       clear h0
       go_wp2_with fail
       refine (CI.out _).mono ?_
       rintro e w1 ⟨rfl, hb⟩
       have d1 := cell_nw hb c1
       have d3 := cell_nw hb c3
       have HB1 := Lib.hid (below_trans HB.out hb (Nat.le_refl _))
       clear hb CI c0 c1 c2 c3 c4 c5 c6
       go_wp2_with fail
       go_roundg (n - (k + 1))
       case measure => omega
       case rel => exact ⟨k + 1, by omega, by omega, by go_num, HB1, Lib.hid (by rw [any_snoc HZ.out, HF.out, HP.out]; rfl)⟩
  ·
   obtain rfl : k = n := by omega
   have HE := Lib.hid (show mHG l a1 a2 = false by have h := HF.out; rwa [List.take_of_length_le (by rw [HL.out]; omega)] at h)
   go_wp2_with fail
   go_ret
   exact ⟨by rw [HE.out]; rfl, HB.out⟩
end Go.Proofs.YtkedacmpmancbaaGreatDoor
namespace Go.Proofs.YtkedacmpmancbaaGreatDoor
open Go Go.ChangeShapes Go.WideShapes Go.ChangeAt Go.RowKit Go.Lib Go.Maps
open Go.ChangeMaps (setBlock heap_setBlock_same)
open Go.MapKept (stamped_empty)
set_option linter.unusedVariables false
set_option linter.unusedSimpArgs false
set_option maxRecDepth 100000

theorem mem_ins (x : Lit × DataW Unit) : ∀ (es : List (Lit × DataW Unit)) (p : Lit × DataW Unit), p ∈ DataW.insert x es ↔ p = x ∨ p ∈ es
 | [], p => by simp [DataW.insert]
 | y :: r, p => by
  unfold DataW.insert
  split
  ·
   simp
  ·
   simp only [List.mem_cons, mem_ins x r p]
   constructor
   ·
    rintro (h | h | h)
    ·
     exact .inr (.inl h)
    ·
     exact .inl h
    ·
     exact .inr (.inr h)
   ·
    rintro (h | h | h)
    ·
     exact .inr (.inl h)
    ·
     exact .inl h
    ·
     exact .inr (.inr h)
/-- Block b is a map of the call's own whose keys are the set s. -/
def SetM (w : World) (b n : Nat) (s : Int → Bool) : Prop := ∃ es : List (Lit × DataW Unit), w.ownsMap Tryz.prog 3 (plainElem Tryz.prog 4) b n (.map es) ∧ (∀ p ∈ es, ∃ id, p.1 = .int .i64 id) ∧ ∀ id, s id = true ↔ ∃ p ∈ es, p.1 = .int .i64 id
section
variable {w w' : World} {b n : Nat} {s s' : Int → Bool}
theorem SetM.lt (h : SetM w b n s) : b < w.heap.size := by obtain ⟨es, h, _⟩ := h; exact World.ownsMap.lt h
theorem SetM.keep (h : SetM w b n s) (e : w'.heap[b]? = w.heap[b]?) : SetM w' b n s := by
 obtain ⟨es, ⟨c, clock, hb, hF⟩, h2⟩ := h
 exact ⟨es, ⟨c, clock, e.trans hb, hF⟩, h2⟩
theorem SetM.new (h : SetM w b n s) (hb : Below w.heap.size w w') : SetM w' b n s := h.keep (hb.block b h.lt)
theorem SetM.congr_ (h : SetM w b n s) (e : ∀ id, s id = s' id) : SetM w b n s' := by
 obtain ⟨es, h1, h2, h3⟩ := h
 exact ⟨es, h1, h2, fun id => by rw [← e id]; exact h3 id⟩
theorem set_none : (∀ p ∈ ([] : List (Lit × DataW Unit)), ∃ id, p.1 = .int .i64 id) ∧ ∀ id : Int, (fun _ : Int => false) id = true ↔ ∃ p ∈ ([] : List (Lit × DataW Unit)), p.1 = .int .i64 id := ⟨(by intro p hp; cases hp), fun id => ⟨fun h => (by cases h), fun h => (by obtain ⟨p, hp, _⟩ := h; cases hp)⟩⟩
theorem setM_made (w : World) : SetM (w.alloc (.map #[] 0)) w.heap.size 0 (fun _ => false) := ⟨[], World.ownsMap_made w _ _ _, set_none⟩
end
section
variable {w : World} {ops : Array Oper} {rest : List Oper} {q : Oper} {a : Act} {Q : Exit → Act → World → Prop}
theorem wp_set_put (hg : q.guard = none) (m x v : Operand) (t : TypeId) (hop : q.op = Op.mapUpdate t m x v) (ht : Tryz.prog.underlying t = some (.map 3 4)) (b n : Nat) (s : Int → Bool) (hm : a.eval m = .map (some b))
  (h : SetM w b n s) (hn : n < maxLen) (id : Int) (hx : a.eval x = .int .i64 id) (hv : a.eval v = .bool true) (hw : (Lit.int .i64 id).wf = true)
  (hK : ∀ w', SetM w' b (n + 1) (fun k => s k || k == id) → w.grownBy w' (some b) → wpList Tryz.prog ops Q rest (a.put q.dst undef) w') : wpList Tryz.prog ops Q (q :: rest) a w := by
 obtain ⟨es, h1, h2, h3⟩ := h
 refine wpList_mapUpdate_own w hg m x v t hop 3 4 keyed_int ht _ b n (.map es) hm h1 hn (.int .i64 id) (.bool true) (.int .i64 id) hx hv (keyOf_int_mk Tryz.underlying3 hw) (.lit (.bool true)) [] (plainElem_bool Tryz.underlying4 true) (fun w' h4 h5 => hK w' ⟨_, h4, ?_, ?_⟩ h5)
 ·
  intro p hp
  rcases (mem_ins _ _ _).1 hp with rfl | hp
  ·
   exact ⟨id, rfl⟩
  ·
   exact h2 p (List.mem_filter.1 hp).1
 ·
  intro k
  constructor
  ·
   intro hk
   by_cases e : k = id
   ·
    subst e
    exact ⟨_, (mem_ins _ _ _).2 (.inl rfl), rfl⟩
   ·
    have hk' : s k = true := by simpa [e] using hk
    obtain ⟨p, hp, hpk⟩ := (h3 k).1 hk'
    refine ⟨p, (mem_ins _ _ _).2 (.inr (List.mem_filter.2 ⟨hp, ?_⟩)), hpk⟩
    rw [hpk]
    simp [Lit.sameKey, e]
  ·
   rintro ⟨p, hp, hpk⟩
   rcases (mem_ins _ _ _).1 hp with rfl | hp
   ·
    have : k = id := by injection hpk with _ h; exact h.symm
    simp [this]
   ·
    have := (h3 k).2 ⟨p, (List.mem_filter.1 hp).1, hpk⟩
    simp [this]
theorem wp_set_del (hg : q.guard = none) (m x : Operand) (t : TypeId) (hop : q.op = Op.call { callee := Callee.builtin Builtin.delete, args := #[m, x], argTypes := #[t, 3] }) (ht : Tryz.prog.underlying t = some (.map 3 4)) (b n : Nat) (hm : a.eval m = .map (some b))
  (s : Int → Bool) (h : SetM w b n s) (id : Int) (hx : a.eval x = .int .i64 id) (hw : (Lit.int .i64 id).wf = true)
  (hK : ∀ w', SetM w' b n (fun k => s k && !(id == k)) → w.grownBy w' (some b) → wpList Tryz.prog ops Q rest (a.put q.dst (.tuple #[])) w') : wpList Tryz.prog ops Q (q :: rest) a w := by
 obtain ⟨es, h1, h2, h3⟩ := h
 refine wpList_delete_own w hg m x t 3 hop 4 keyed_int ht _ b n (.map es) hm h1 (.int .i64 id) (.int .i64 id) hx (keyOf_int_mk Tryz.underlying3 hw) (fun w' h4 h5 => hK w' ⟨_, h4, ?_, ?_⟩ h5.grown)
 ·
  intro p hp
  exact h2 p (List.mem_filter.1 hp).1
 ·
  intro k
  constructor
  ·
   intro hk
   simp only [Bool.and_eq_true, Bool.not_eq_true', beq_eq_false_iff_ne, ne_eq] at hk
   obtain ⟨p, hp, hpk⟩ := (h3 k).1 hk.1
   refine ⟨p, List.mem_filter.2 ⟨hp, ?_⟩, hpk⟩
   rw [hpk]
   have : ¬ k = id := fun e => hk.2 e.symm
   simp [Lit.sameKey, this]
  ·
   rintro ⟨p, hp, hpk⟩
   obtain ⟨hp1, hp2⟩ := List.mem_filter.1 hp
   have hs := (h3 k).2 ⟨p, hp1, hpk⟩
   rw [hpk] at hp2
   have hne : ¬ k = id := by simpa [Lit.sameKey] using hp2
   have : (id == k) = false := by simpa using fun e => hne e.symm
   show (s k && !(id == k)) = true
   rw [hs, this]
   rfl
theorem wp_set_clear (hg : q.guard = none) (m : Operand) (t : TypeId) (hop : q.op = Op.call { callee := Callee.builtin Builtin.clear, args := #[m], argTypes := #[t] }) (ht : Tryz.prog.underlying t = some (.map 3 4)) (b n : Nat) (hm : a.eval m = .map (some b))
  (s : Int → Bool) (h : SetM w b n s)
  (hK : ∀ w', SetM w' b n (fun _ => false) → w.grownBy w' (some b) → wpList Tryz.prog ops Q rest (a.put q.dst (.tuple #[])) w') : wpList Tryz.prog ops Q (q :: rest) a w := by
 obtain ⟨es0, ⟨es, clock, hb, hF, hs, hD⟩, _⟩ := h
 have hrun : ∀ ty, (Builtin.clear_ #[t] ty #[.map (some b)]).run Tryz.prog w = .ok (.tuple #[]) (setBlock w b (.map #[] clock)) := fun ty => by
  simp [Builtin.clear_, run_underlying ht, MapKept.run_getObj_map hb, MapKept.run_setObj_map _ hb, Result.andThen, setBlock]
 refine wpList_plain hg fun K' hK' => ?_
 unfold Oper.wp
 simp [execOp, hop, resolve, invoke, builtin, hm, hrun, Result.andThen]
 refine hK' _ _ (hK _ ⟨[], ⟨#[], clock, heap_setBlock_same hb _, ⟨by simp, stamped_empty clock, by simp⟩, Nat.zero_le _, rfl⟩, set_none⟩ (World.mapTurned.grown ⟨es, clock, #[], clock, hb, rfl⟩))
end
theorem wp_set_len_op {o : Oper} {a : Act} {w : World} {K : Act → World → Prop} {Q : Exit → Act → World → Prop} (m : Operand) (t : TypeId) (hop : o.op = Op.call { callee := Callee.builtin Builtin.len, args := #[m], argTypes := #[t] }) (ht : Tryz.prog.underlying t = some (.map 3 4)) (b n : Nat) (hm : a.eval m = .map (some b))
  (s : Int → Bool) (h : SetM w b n s) (hK : ∀ z : Nat, (z = 0 ↔ ∀ id, s id = false) → K (a.put o.dst (.int .i64 z)) w) : o.wp Tryz.prog a w K Q := by
 obtain ⟨es, h1, h2, h3⟩ := h
 unfold Oper.wp
 simp [execOp, hop, resolve, invoke, builtin, hm, h1.len ht o.type, Result.andThen]
 refine hK es.length ⟨fun h0 id => ?_, fun h0 => ?_⟩
 ·
  have he : es = [] := List.eq_nil_of_length_eq_zero h0
  cases hs : s id with
  | false => rfl
  | true =>
   obtain ⟨p, hp, _⟩ := (h3 id).1 hs
   rw [he] at hp
   cases hp
 ·
  cases es with
  | nil => rfl
  | cons p r =>
   obtain ⟨id, hid⟩ := h2 p (List.mem_cons_self ..)
   have := (h3 id).2 ⟨p, List.mem_cons_self .., hid⟩
   rw [h0 id] at this
   cases this
end Go.Proofs.YtkedacmpmancbaaGreatDoor
namespace Go.Proofs.YtkedacmpmancbaaGreatDoor
open Go Go.ChangeShapes Go.WideShapes Go.ChangeAt Go.RowKit Go.Lib Go.Maps
open Go.ChangeMaps (setBlock heap_setBlock_same)
open Go.MapKept (stamped_empty)
set_option linter.unusedVariables false
set_option linter.unusedSimpArgs false
set_option maxRecDepth 100000

set_option maxHeartbeats 8000000 in
theorem impl_openOwners (l : List TGrant) (A : Option Addr) (n c lo hi : Nat) (a1 : Int) (J : List Int) (A2 : Option Addr) (n2 c2 lo2 hi2 : Nat) (w : World) (hn : n ≤ 1048576) (hr : Rd w lo hi 7 A n (cGrant l)) (H : Hid (cGrantOk l)) (hn2 : n2 ≤ 1048576) (hr2 : Rd w lo2 hi2 1 A2 n2 (i64s J)) (hJ : Hid (I64s J)) :
  Calls Tryz.prog 147 #[.slice A n c, .int .i64 a1, .slice A2 n2 c2] w (fun e w' => ∃ b m, e = .returned (.map (some b)) ∧ SetM w' b m (fun id => decide (id ∈ J) && !mHG l a1 id) ∧ Below w.heap.size w w') := by
 have HT : Hid (Tryz.prog.underlying 190 = some (.map 3 4)) := Lib.hid Tryz.underlying190
 have hmk : ∀ W, (Instr.makeMap 190 none).run Tryz.prog W = .ok (.map (some W.heap.size)) (W.alloc (.map #[] 0)) := make_map_none Tryz.underlying190
 have HL := Lib.hid (rd_len TGrant.len hr (by decide))
 have hJL : J.length = n2 := by simpa [i64s] using hr2.1
 have HJL := Lib.hid hJL
 have HR := Lib.hid hr
 have HR2 := Lib.hid hr2
 clear hr hr2 hJL
 go_enter Tryz.func147, Tryz.ntmps147
 go_wp2_with fail
 go_loopg [15] n2 (fun gg i wr => ∃ k : Nat, k ≤ n2 ∧ n2 - k ≤ gg ∧ i = .int .i64 k ∧ Hid (SetM wr w.heap.size k (fun id => decide (id ∈ J.take k))) ∧ Hid (Below w.heap.size w wr))
 case atStart => exact ⟨0, Nat.zero_le _, by omega, rfl, Lib.hid ((setM_made w).congr_ (fun id => by simp)), Lib.hid ((Below.refl _ _).alloc (Nat.le_refl _) _)⟩
 case round =>
  obtain ⟨k, hk, hg, rfl, HM, HB⟩ := hrel
  by_cases hlt : k < n2
  ·
   obtain ⟨b, off, z, rfl, _, _, hz, hc⟩ := rd_int (HR2.out.new HB.out) hlt
   have c0 : wr.cell? ⟨b, off + k, none⟩ = some (.int .i64 z) := by simpa using hc
   have HWz := Lib.hid (show (Lit.int .i64 z).wf = true from wf_get hJ.out hz)
   have HZ := Lib.hid (show ∀ id, (decide (id ∈ J.take k) || id == z) = decide (id ∈ J.take (k + 1)) from fun id => by rw [List.take_add_one, hz]; simp [Bool.or_comm, Bool.beq_eq_decide_eq])
   clear hz hc
   go_wp2_with (at_mapUpdate; refine wp_set_put rfl _ _ _ _ rfl HT.out w.heap.size k _ rfl HM.out (by unfold maxLen; omega) z rfl rfl HWz.out ?_; intro w2 hm2 hg2; have HM2 := Lib.hid (hm2.congr_ HZ.out); have HB2 := Lib.hid (HB.out.grown hg2 HB.out.size (fun q hq => by injection hq with hq; omega)); clear hm2 hg2)
   go_roundg (n2 - (k + 1))
   case measure => omega
   case rel => exact ⟨k + 1, by omega, by omega, by go_num, HM2, HB2⟩
  ·
   obtain rfl : k = n2 := by omega
   have HMs := Lib.hid (show SetM wr w.heap.size k (fun id => decide (id ∈ J) && !(l.take 0).any (pHG a1 id)) from HM.out.congr_ (fun id => by rw [List.take_of_length_le (by rw [HJL.out]; omega)]; simp))
   have HBs := HB
   obtain ⟨m0, hm0⟩ : ∃ m0, m0 = k := ⟨_, rfl⟩
   rw [← hm0] at HMs
   clear HM HB
   go_wp2_with fail
   go_loopg [24] n (fun gg i wr => ∃ k : Nat, k ≤ n ∧ n - k ≤ gg ∧ i = .int .i64 k ∧ Hid (SetM wr w.heap.size m0 (fun id => decide (id ∈ J) && !(l.take k).any (pHG a1 id))) ∧ Hid (Below w.heap.size w wr))
   case atStart => exact ⟨0, Nat.zero_le _, by omega, rfl, HMs, HBs⟩
   case round =>
    obtain ⟨k, hk, hg, rfl, HM, HB⟩ := hrel
    by_cases hlt : k < n
    ·
     obtain ⟨b, off, x, rfl, _, _, hz, hc⟩ := rd_elem TGrant.len (HR.out.new HB.out) HL.out hlt
     have c0 : wr.cell? ⟨b, off + k * 7, none⟩ = some (.int .i64 x.f0) := hc 0 _ rfl
     have c1 : wr.cell? ⟨b, off + k * 7 + 1, none⟩ = some (.int .i64 x.f1) := hc 1 _ rfl
     have c2 : wr.cell? ⟨b, off + k * 7 + 2, none⟩ = some (.int .i64 x.f2) := hc 2 _ rfl
     have c3 : wr.cell? ⟨b, off + k * 7 + 3, none⟩ = some (.int .i64 x.f3) := hc 3 _ rfl
     have c4 : wr.cell? ⟨b, off + k * 7 + 4, none⟩ = some (.int .i64 x.f4) := hc 4 _ rfl
     have c5 : wr.cell? ⟨b, off + k * 7 + 5, none⟩ = some (.int .i64 x.f5) := hc 5 _ rfl
     have c6 : wr.cell? ⟨b, off + k * 7 + 6, none⟩ = some (.bool x.f6) := hc 6 _ rfl
     have HZ := Lib.hid hz
     have HWx := Lib.hid (show (Lit.int .i64 x.f1).wf = true from WalkArith.wf_i64 (H.out x (List.mem_of_getElem? hz)).2.1)
     have KX0 := Lib.hid (box_new wr 106 #[.int .i64 x.f0, .int .i64 x.f1, .int .i64 x.f2, .int .i64 x.f3, .int .i64 x.f4, .int .i64 x.f5, .bool x.f6])
     have hsw := HB.out.size
     clear hz hc
     cases h0 : mIsGrant x with
     | false =>
      have HE := Lib.hid (show ∀ id, (decide (id ∈ J) && !(l.take k).any (pHG a1 id)) = (decide (id ∈ J) && !(l.take (k + 1)).any (pHG a1 id)) from fun id => by rw [any_snoc HZ.out]; simp [pHG, h0])
      have CI : Hid (Calls Tryz.prog 88 #[vGrant x] (wr.alloc (.cells #[.int .i64 x.f0, .int .i64 x.f1, .int .i64 x.f2, .int .i64 x.f3, .int .i64 x.f4, .int .i64 x.f5, .bool x.f6] 106)) (Says (.bool false) (wr.alloc (.cells #[.int .i64 x.f0, .int .i64 x.f1, .int .i64 x.f2, .int .i64 x.f3, .int .i64 x.f4, .int .i64 x.f5, .bool x.f6] 106)))) := Lib.hid (by have h := impl_IsGrant x (wr.alloc (.cells #[.int .i64 x.f0, .int .i64 x.f1, .int .i64 x.f2, .int .i64 x.f3, .int .i64 x.f4, .int .i64 x.f5, .bool x.f6] 106)); rwa [h0] at h)
      clear h0
      go_wp2_with fail
      refine CI.out.mono ?_
      rintro e w1 ⟨rfl, hb⟩
      clear CI c0 c1 c2 c3 c4 c5 c6
      have KX := Lib.hid (KX0.out.new hb)
      have HM1 := Lib.hid ((HM.out.keep (Below.heap_alloc _ _ _ (by have := HM.out.lt; omega))).new hb)
      have HB1 := Lib.hid (show Below w.heap.size w w1 from below_trans (HB.out.alloc HB.out.size _) hb (Nat.le_refl _))
      have hsz := hb.size
      (try simp at hsz)
      clear hb KX0
      obtain ⟨k0, k1, k2, k3, k4, k5, k6⟩ := KX.out.p7
      go_wp2_with fail
      go_roundg (n - (k + 1))
      case measure => omega
      case rel => exact ⟨k + 1, by omega, by omega, by go_num, Lib.hid (SetM.congr_ HM1.out HE.out), HB1⟩
     | true =>
      cases h1 : x.f3 == a1 with
      | false =>
       have HE := Lib.hid (show ∀ id, (decide (id ∈ J) && !(l.take k).any (pHG a1 id)) = (decide (id ∈ J) && !(l.take (k + 1)).any (pHG a1 id)) from fun id => by rw [any_snoc HZ.out]; simp [pHG, h0, h1])
       have CI : Hid (Calls Tryz.prog 88 #[vGrant x] (wr.alloc (.cells #[.int .i64 x.f0, .int .i64 x.f1, .int .i64 x.f2, .int .i64 x.f3, .int .i64 x.f4, .int .i64 x.f5, .bool x.f6] 106)) (Says (.bool true) (wr.alloc (.cells #[.int .i64 x.f0, .int .i64 x.f1, .int .i64 x.f2, .int .i64 x.f3, .int .i64 x.f4, .int .i64 x.f5, .bool x.f6] 106)))) := Lib.hid (by have h := impl_IsGrant x (wr.alloc (.cells #[.int .i64 x.f0, .int .i64 x.f1, .int .i64 x.f2, .int .i64 x.f3, .int .i64 x.f4, .int .i64 x.f5, .bool x.f6] 106)); rwa [h0] at h)
       have e1 : (x.f3 != a1) = true := by have h : (x.f3 == a1) = false := h1; simp [bne, h]
       clear h0 h1
       go_wp2_with fail
       refine CI.out.mono ?_
       rintro e w1 ⟨rfl, hb⟩
       clear CI c0 c1 c2 c3 c4 c5 c6
       have KX := Lib.hid (KX0.out.new hb)
       have HM1 := Lib.hid ((HM.out.keep (Below.heap_alloc _ _ _ (by have := HM.out.lt; omega))).new hb)
       have HB1 := Lib.hid (show Below w.heap.size w w1 from below_trans (HB.out.alloc HB.out.size _) hb (Nat.le_refl _))
       have hsz := hb.size
       (try simp at hsz)
       clear hb KX0
       obtain ⟨k0, k1, k2, k3, k4, k5, k6⟩ := KX.out.p7
       go_wp2_with fail
       go_roundg (n - (k + 1))
       case measure => omega
       case rel => exact ⟨k + 1, by omega, by omega, by go_num, Lib.hid (SetM.congr_ HM1.out HE.out), HB1⟩
      | true =>
       cases h2 : x.f1 == 0 with
       | false =>
        have HE := Lib.hid (show ∀ id, ((decide (id ∈ J) && !(l.take k).any (pHG a1 id)) && !(x.f1 == id)) = (decide (id ∈ J) && !(l.take (k + 1)).any (pHG a1 id)) from fun id => by rw [any_snoc HZ.out]; have h2' : (x.f1 == 0) = false := h2; simp only [pHG, h0, h1, h2', Bool.true_and, Bool.or_false]; cases decide (id ∈ J) <;> cases (l.take k).any (pHG a1 id) <;> cases (x.f1 == id) <;> rfl)
        have CI : Hid (Calls Tryz.prog 88 #[vGrant x] (wr.alloc (.cells #[.int .i64 x.f0, .int .i64 x.f1, .int .i64 x.f2, .int .i64 x.f3, .int .i64 x.f4, .int .i64 x.f5, .bool x.f6] 106)) (Says (.bool true) (wr.alloc (.cells #[.int .i64 x.f0, .int .i64 x.f1, .int .i64 x.f2, .int .i64 x.f3, .int .i64 x.f4, .int .i64 x.f5, .bool x.f6] 106)))) := Lib.hid (by have h := impl_IsGrant x (wr.alloc (.cells #[.int .i64 x.f0, .int .i64 x.f1, .int .i64 x.f2, .int .i64 x.f3, .int .i64 x.f4, .int .i64 x.f5, .bool x.f6] 106)); rwa [h0] at h)
        have e1 : (x.f3 != a1) = false := by have h : (x.f3 == a1) = true := h1; simp [bne, h]
        have e2 : (x.f1 == 0) = false := h2
        clear h0 h1 h2
        go_wp2_with fail
        refine CI.out.mono ?_
        rintro e w1 ⟨rfl, hb⟩
        clear CI c0 c1 c2 c3 c4 c5 c6
        have KX := Lib.hid (KX0.out.new hb)
        have HM1 := Lib.hid ((HM.out.keep (Below.heap_alloc _ _ _ (by have := HM.out.lt; omega))).new hb)
        have HB1 := Lib.hid (show Below w.heap.size w w1 from below_trans (HB.out.alloc HB.out.size _) hb (Nat.le_refl _))
        have hsz := hb.size
        (try simp at hsz)
        clear hb KX0
        obtain ⟨k0, k1, k2, k3, k4, k5, k6⟩ := KX.out.p7
        go_wp2_with (at_delete; refine wp_set_del rfl _ _ _ rfl HT.out w.heap.size _ rfl _ HM1.out x.f1 rfl HWx.out ?_; intro w3 hm3 hg3; have HM3 := Lib.hid hm3; have HB3 := Lib.hid (HB1.out.grown hg3 HB1.out.size (fun q hq => by injection hq with hq; omega)); clear hm3 hg3)
        go_roundg (n - (k + 1))
        case measure => omega
        case rel => exact ⟨k + 1, by omega, by omega, by go_num, Lib.hid (SetM.congr_ HM3.out HE.out), HB3⟩
       | true =>
        have HE := Lib.hid (show ∀ id, (false && !(x.f1 == id)) = (decide (id ∈ J) && !(l.take (k + 1)).any (pHG a1 id)) from fun id => by rw [any_snoc HZ.out]; simp [pHG, h0, h1, h2])
        have CI : Hid (Calls Tryz.prog 88 #[vGrant x] (wr.alloc (.cells #[.int .i64 x.f0, .int .i64 x.f1, .int .i64 x.f2, .int .i64 x.f3, .int .i64 x.f4, .int .i64 x.f5, .bool x.f6] 106)) (Says (.bool true) (wr.alloc (.cells #[.int .i64 x.f0, .int .i64 x.f1, .int .i64 x.f2, .int .i64 x.f3, .int .i64 x.f4, .int .i64 x.f5, .bool x.f6] 106)))) := Lib.hid (by have h := impl_IsGrant x (wr.alloc (.cells #[.int .i64 x.f0, .int .i64 x.f1, .int .i64 x.f2, .int .i64 x.f3, .int .i64 x.f4, .int .i64 x.f5, .bool x.f6] 106)); rwa [h0] at h)
        have e1 : (x.f3 != a1) = false := by have h : (x.f3 == a1) = true := h1; simp [bne, h]
        have e2 : (x.f1 == 0) = true := h2
        clear h0 h1 h2
        go_wp2_with fail
        refine CI.out.mono ?_
        rintro e w1 ⟨rfl, hb⟩
        clear CI c0 c1 c2 c3 c4 c5 c6
        have KX := Lib.hid (KX0.out.new hb)
        have HM1 := Lib.hid ((HM.out.keep (Below.heap_alloc _ _ _ (by have := HM.out.lt; omega))).new hb)
        have HB1 := Lib.hid (show Below w.heap.size w w1 from below_trans (HB.out.alloc HB.out.size _) hb (Nat.le_refl _))
        have hsz := hb.size
        (try simp at hsz)
        clear hb KX0
        obtain ⟨k0, k1, k2, k3, k4, k5, k6⟩ := KX.out.p7
        have hbs := HM.out.lt
        go_wp2_with (first | (at_delete; refine wp_set_del rfl _ _ _ rfl HT.out w.heap.size _ rfl _ HM2.out x.f1 rfl HWx.out ?_; intro w3 hm3 hg3; have HM3 := Lib.hid hm3; have HB3 := Lib.hid (HB2.out.grown hg3 HB2.out.size (fun q hq => by injection hq with hq; omega)); clear hm3 hg3) | (refine wp_set_clear rfl _ _ rfl HT.out w.heap.size _ rfl _ HM1.out ?_; intro w2 hm2 hg2; have HM2 := Lib.hid hm2; have HB2 := Lib.hid (HB1.out.grown hg2 HB1.out.size (fun q hq => by injection hq with hq; omega)); have KY := Lib.hid (KX.out.grown hg2 (by omega)); have y1 := KY.out.at_ (j := 1) rfl; clear hm2 hg2))
        go_roundg (n - (k + 1))
        case measure => omega
        case rel => exact ⟨k + 1, by omega, by omega, by go_num, Lib.hid (SetM.congr_ HM3.out HE.out), HB3⟩
    ·
     obtain rfl : k = n := by omega
     have HE := Lib.hid (show SetM wr w.heap.size m0 (fun id => decide (id ∈ J) && !mHG l a1 id) from HM.out.congr_ (fun id => by unfold mHG; rw [List.take_of_length_le (by rw [HL.out]; omega)]))
     go_wp2_with fail
     go_ret
     exact ⟨_, _, rfl, HE.out, HB.out⟩
/-- No owner is left open if each has a grant. -/
theorem open_none {l : List TGrant} {a1 : Int} {J : List Int} : (∀ id, (decide (id ∈ J) && !mHG l a1 id) = false) ↔ J.all (fun o => mHG l a1 o) = true := by
 rw [List.all_eq_true]
 constructor
 ·
  intro h o ho
  have := h o
  simpa [ho] using this
 ·
  intro h id
  by_cases hi : id ∈ J
  ·
   simp [hi, h id hi]
  ·
   simp [hi]
end Go.Proofs.YtkedacmpmancbaaGreatDoor
namespace Go.Proofs.YtkedacmpmancbaaGreatDoor
open Go Go.ChangeShapes Go.WideShapes Go.ChangeAt Go.RowKit Go.Lib
set_option linter.unusedVariables false
set_option linter.unusedSimpArgs false
set_option maxRecDepth 100000
def PredMV {α : Type} (P : Program) (g : Nat) (mv : Value) (enc : α → Value) (p : α → Bool) (l : List α) (w : World) : Prop :=
 ∀ (W : World) (x : α), x ∈ l → Below w.heap.size w W → Calls P g #[mv, enc x] W (Says (.bool (p x)) W)
theorem rd_tailRch {w : World} {lo hi n b off : Nat} {x : TRule} {l : List TRule} (h : Rd w lo hi 8 (some ⟨b, off, none⟩) (n + 1) (cRule (x :: l))) :
  Rd w lo hi 8 (some ⟨b, off + 8, none⟩) n (cRule l) := by
 have hc : cRule (x :: l) = TRule.cells x ++ cRule l := rfl
 refine ⟨?_, fun hn => ?_⟩
 ·
  have := h.1
  rw [hc, List.length_append, TRule.len] at this
  omega
 ·
  obtain ⟨b', off', e, h1, h2, h3⟩ := h.2 (by omega)
  cases e
  refine ⟨b, off + 8, rfl, h1, h2, fun j u hu => ?_⟩
  rw [Nat.add_assoc]
  refine h3 (8 + j) u ?_
  rw [hc, List.getElem?_append_right (by rw [TRule.len]; omega), TRule.len]
  simpa using hu
set_option maxHeartbeats 4000000 in
theorem any_Rch (p : TRule → Bool) (lb : Array Value) (l : List TRule) (A : Option Addr) (n c lo hi : Nat) (w : World) (hn : n ≤ 17592186044416) (hcap : n ≤ c)
  (hr : Rd w lo hi 8 A n (cRule l)) (hp : PredB Tryz.prog 180 lb (fun x : TRule => .agg #[.int .i64 x.f0, .int .i64 x.f1, .int .i64 x.f2, .int .i64 x.f3, .int .i64 x.f4, .int .i64 x.f5, .int .i64 x.f6, .int .i64 x.f7]) p l w) :
  Calls Tryz.prog 179 #[.slice A n c, .func (.func 180) #[] lb] w (Says (.bool (l.any p)) w) := by
 have HR := Lib.hid hr
 have HP := Lib.hid hp
 clear hr hp
 go_enter Tryz.func179, Tryz.ntmps179
 go_wp2_with fail
 go_loopg [0] n (fun gg v wr => ∃ (A' : Option Addr) (n' c' : Nat) (l' : List TRule), v = .slice A' n' c' ∧ n' ≤ gg ∧ n' ≤ n ∧ n' ≤ c' ∧ Hid (Rd wr lo hi 8 A' n' (cRule l')) ∧ Hid (∀ x, x ∈ l' → x ∈ l) ∧ Hid (l.any p = l'.any p) ∧ Hid (Below w.heap.size w wr))
 case atStart => exact ⟨_, _, _, l, rfl, Nat.le_refl _, Nat.le_refl _, hcap, HR, Lib.hid (fun _ h => h), Lib.hid rfl, Lib.hid (Below.refl _ _)⟩
 case round =>
  obtain ⟨A', n', c', l', rfl, hg, hn', hcc, HR', HM, HA, HB⟩ := hrel
  cases l' with
  | nil =>
   obtain rfl : n' = 0 := by have := HR'.out.1; simp at this; omega
   have HE := Lib.hid (show l.any p = false from HA.out)
   go_wp2_with fail
   go_ret
   exact ⟨by rw [HE.out]; rfl, HB.out⟩
  | cons x t =>
   have HL := Lib.hid (rd_len TRule.len HR'.out (by decide))
   obtain ⟨m, rfl⟩ : ∃ m, n' = m + 1 := ⟨t.length, by have := HL.out; simp at this; omega⟩
   obtain ⟨b, off, x', rfl, _, _, hz, hc⟩ := rd_elem (k := 0) TRule.len HR'.out HL.out (by omega)
   obtain rfl : x = x' := by simpa using hz
   have c0 : wr.cell? ⟨b, off, none⟩ = some (.int .i64 x.f0) := by simpa using hc 0 _ rfl
   have c1 : wr.cell? ⟨b, off + 1, none⟩ = some (.int .i64 x.f1) := by simpa using hc 1 _ rfl
   have c2 : wr.cell? ⟨b, off + 2, none⟩ = some (.int .i64 x.f2) := by simpa using hc 2 _ rfl
   have c3 : wr.cell? ⟨b, off + 3, none⟩ = some (.int .i64 x.f3) := by simpa using hc 3 _ rfl
   have c4 : wr.cell? ⟨b, off + 4, none⟩ = some (.int .i64 x.f4) := by simpa using hc 4 _ rfl
   have c5 : wr.cell? ⟨b, off + 5, none⟩ = some (.int .i64 x.f5) := by simpa using hc 5 _ rfl
   have c6 : wr.cell? ⟨b, off + 6, none⟩ = some (.int .i64 x.f6) := by simpa using hc 6 _ rfl
   have c7 : wr.cell? ⟨b, off + 7, none⟩ = some (.int .i64 x.f7) := by simpa using hc 7 _ rfl
   have HT := Lib.hid (rd_tailRch HR'.out)
   have hcall := HP.out wr x (HM.out x (by simp)) HB.out
   have HMt := Lib.hid (fun y (h : y ∈ t) => HM.out y (List.mem_cons_of_mem _ h))
   clear hc hz HR' HM
   cases hq : p x with
   | true =>
    rw [hq] at hcall
    have HE := Lib.hid (show l.any p = true by rw [HA.out, List.any_cons, hq]; rfl)
    clear hq HA
    go_wp2_with (go_at_call 180; refine hcall.mono ?_; rintro e w1 ⟨rfl, hb1⟩; have HB1 := Lib.hid hb1; clear hb1)
    go_ret
    exact ⟨by rw [HE.out]; rfl, below_trans HB.out HB1.out (Nat.le_refl _)⟩
   | false =>
    rw [hq] at hcall
    have HE := Lib.hid (show l.any p = t.any p by rw [HA.out, List.any_cons, hq]; rfl)
    clear hq HA
    rcases Nat.eq_zero_or_pos m with rfl | hm
    ·
     obtain rfl : t = [] := by have := HL.out; simpa using this
     go_wp2_with (go_at_call 180; refine hcall.mono ?_; rintro e w1 ⟨rfl, hb1⟩; have HB1 := Lib.hid hb1; clear hb1)
     go_roundg 0
     case measure => omega
     case rel => exact ⟨_, _, _, [], rfl, Nat.le_refl _, by omega, by omega, Lib.hid Rd.empty, HMt, HE, Lib.hid (below_trans HB.out HB1.out (Nat.le_refl _))⟩
    ·
     go_wp2_with (go_at_call 180; refine hcall.mono ?_; rintro e w1 ⟨rfl, hb1⟩; have HB1 := Lib.hid hb1; clear hb1)
     go_roundg m
     case measure => omega
     case rel => exact ⟨_, _, _, t, rfl, by omega, by omega, by omega, Lib.hid (HT.out.new HB1.out), HMt, HE, Lib.hid (below_trans HB.out HB1.out (Nat.le_refl _))⟩
theorem nots_Rch (p : TRule → Bool) (mv : Value) (l : List TRule) (B : Nat) (w : World) (hq : w.cell? ⟨B, 0, none⟩ = some (.func (.func 145) #[mv] #[]))
  (hp : PredMV Tryz.prog 145 mv (fun x : TRule => .agg #[.int .i64 x.f0, .int .i64 x.f1, .int .i64 x.f2, .int .i64 x.f3, .int .i64 x.f4, .int .i64 x.f5, .int .i64 x.f6, .int .i64 x.f7]) p l w) : PredB Tryz.prog 180 #[.pointer (some ⟨B, 0, none⟩)] (fun x : TRule => .agg #[.int .i64 x.f0, .int .i64 x.f1, .int .i64 x.f2, .int .i64 x.f3, .int .i64 x.f4, .int .i64 x.f5, .int .i64 x.f6, .int .i64 x.f7]) (fun x => !p x) l w := fun W x hx hb => by
 have c0 := cell_nw hb hq
 have HC := Lib.hid (show Calls Tryz.prog 145 #[mv, .agg #[.int .i64 x.f0, .int .i64 x.f1, .int .i64 x.f2, .int .i64 x.f3, .int .i64 x.f4, .int .i64 x.f5, .int .i64 x.f6, .int .i64 x.f7]] (W.alloc (.cells #[.int .i64 x.f0, .int .i64 x.f1, .int .i64 x.f2, .int .i64 x.f3, .int .i64 x.f4, .int .i64 x.f5, .int .i64 x.f6, .int .i64 x.f7] 113)) _ from hp _ x hx (hb.alloc (by have := hb.size; omega) _))
 have m0 : B < W.heap.size := World.block_lt_of_cell? _ _ c0
 have n0 : B ≠ W.heap.size := Nat.ne_of_lt m0
 clear hb hq hp
 change Calls Tryz.prog _ #[.agg #[.int .i64 x.f0, .int .i64 x.f1, .int .i64 x.f2, .int .i64 x.f3, .int .i64 x.f4, .int .i64 x.f5, .int .i64 x.f6, .int .i64 x.f7], .pointer (some ⟨B, 0, none⟩)] _ (Says (.bool (!p x)) W)
 generalize p x = q at HC ⊢
 cases q
 all_goals
  go_enter Tryz.func180, Tryz.ntmps180
  go_wp2_with (go_at_call 145; refine HC.out.mono ?_; rintro e w1 ⟨rfl, hb1⟩; have HB1 := Lib.hid (below_trans ((Below.refl _ _).alloc (Nat.le_refl _) _) hb1 (by simp)); clear hb1)
  go_ret
  exact ⟨rfl, HB1.out⟩
set_option maxHeartbeats 4000000 in
theorem all_Rch (p : TRule → Bool) (mv : Value) (l : List TRule) (A : Option Addr) (n c lo hi : Nat) (w : World) (hn : n ≤ 17592186044416) (hcap : n ≤ c)
  (hr : Rd w lo hi 8 A n (cRule l)) (hp : PredMV Tryz.prog 145 mv (fun x : TRule => .agg #[.int .i64 x.f0, .int .i64 x.f1, .int .i64 x.f2, .int .i64 x.f3, .int .i64 x.f4, .int .i64 x.f5, .int .i64 x.f6, .int .i64 x.f7]) p l w) :
  Calls Tryz.prog 135 #[.slice A n c, .func (.func 145) #[mv] #[]] w (Says (.bool (l.all p)) w) := by
 have hmf : ∀ (fn : Fn) (first cap : Array Value) (w : World), (Instr.makeFunc fn first cap).run Tryz.prog w = .ok (.func fn first cap) w := fun _ _ _ _ => rfl
 have HC := any_Rch (fun x => !p x) #[.pointer (some ⟨w.heap.size, 0, none⟩)] l A n c lo hi (w.alloc (.cells #[.func (.func 145) #[mv] #[]] 110)) hn hcap (hr.alloc _)
  (nots_Rch p mv l w.heap.size _ (cell_newest (by simp) rfl) (fun W x hx hb => hp W x hx (below_trans ((Below.refl _ _).alloc (Nat.le_refl _) _) hb (by simp))))
 have hE : l.all p = !(l.any fun x => !p x) := by rw [List.all_eq_not_any_not]
 rw [hE]
 clear hr hp hE
 generalize (l.any fun x => !p x) = q at HC ⊢
 have HC := Lib.hid HC
 cases q
 all_goals
  go_enter Tryz.func135, Tryz.ntmps135
  go_wp2_with fail
  refine HC.out.mono ?_
  rintro e w1 ⟨rfl, hb1⟩
  have HB1 := Lib.hid (below_trans ((Below.refl _ _).alloc (Nat.le_refl _) _) hb1 (by simp))
  clear hb1
  go_wp2_with fail
  go_ret
  exact ⟨rfl, HB1.out⟩
end Go.Proofs.YtkedacmpmancbaaGreatDoor
namespace Go.Proofs.YtkedacmpmancbaaGreatDoor
open Go Go.ChangeShapes Go.WideShapes Go.ChangeAt Go.RowKit Go.Lib
set_option linter.unusedVariables false
set_option maxRecDepth 100000

structure Toption where
 f0 : Bool
 f1 : Int
deriving DecidableEq
def Toption.cells (x : Toption) : List Value := [.bool x.f0, .int .i64 x.f1]
theorem Toption.len (x : Toption) : x.cells.length = 2 := rfl
def Toption.fit (x : Toption) : Prop := (-9223372036854775808 ≤ x.f1 ∧ x.f1 ≤ 9223372036854775807)
/-- The marks of one element, from k on. -/
def Toption.mark (k : Nat) : Toption := ⟨((((k + 0 : Nat) : Int) % 3) == 0), ((k + 1 : Nat) : Int)⟩
def Toption.marks (k n : Nat) : List Toption := (List.range n).map fun i => Toption.mark (k + i * 2)


theorem equalIn_option (x y : Toption) (d : Nat) (w : World) :
  (Op.equalIn (d + 2) 234 (.agg #[.bool x.f0, .int .i64 x.f1]) (.agg #[.bool y.f0, .int .i64 y.f1])).run Tryz.prog w = .ok (decide (x = y)) w := by
 rw [run_equalIn_agg w (d + 1) 234 _ _ (by kernel_rfl) (by kernel_rfl)]
 simp only [Program.fieldsOf, Tryz.underlying234]
 rw [eqf_bool (by decide) rfl rfl rfl, eqf_int (by decide) rfl rfl rfl]
 simp only [Op.eqFields, Sem.run_pure]
 have he : decide (x = y) = (x.f0 == y.f0 && (x.f1 == y.f1)) := by
  cases x; cases y
  simp
  rw [Bool.eq_iff_iff]; simp
 rw [he]
 cases x.f0 == y.f0 <;> cases x.f1 == y.f1 <;> rfl
theorem eql_option (x y : Toption) (w : World) : (binOp .eql 234 (.agg #[.bool x.f0, .int .i64 x.f1]) (.agg #[.bool y.f0, .int .i64 y.f1])).run Tryz.prog w = .ok (.bool (decide (x = y))) w := by
 rw [run_eql_struct, equalIn_option x y 9998 w]; rfl

end Go.Proofs.YtkedacmpmancbaaGreatDoor
namespace Go.Proofs.YtkedacmpmancbaaGreatDoor
open Go Go.ChangeShapes Go.WideShapes Go.ChangeAt Go.RowKit Go.Lib
set_option linter.unusedVariables false
set_option linter.unusedSimpArgs false
set_option maxRecDepth 100000
abbrev vOpt (all k : Int) : Value := .agg #[.bool (k != all), .int .i64 k]
theorem opt_same (all k m : Int) : decide ((⟨k != all, k⟩ : Toption) = ⟨m != all, m⟩) = (m == k) := by
 rw [Bool.eq_iff_iff]
 simp
 constructor
 ·
  rintro ⟨_, h⟩; exact h.symm
 ·
  rintro rfl; exact ⟨rfl, rfl⟩
theorem eql_opt (all k m : Int) (w : World) : (binOp .eql 234 (vOpt all k) (vOpt all m)).run Tryz.prog w = .ok (.bool (m == k)) w := by
 have h := eql_option ⟨k != all, k⟩ ⟨m != all, m⟩ w
 rw [opt_same] at h
 exact h
set_option maxHeartbeats 1000000 in
theorem impl_isWithin (all k m : Int) (w : World) :
  Calls Tryz.prog 208 #[vOpt all k, vOpt all m] w (Says (.bool (mTakes all m k)) w) := by
 have hb0 : (m != all) = !(m == all) := rfl
 by_cases h0 : (m == all) = true
 ·
  have HE := Lib.hid (show mTakes all m k = true by simp [mTakes, h0])
  unfold vOpt
  rw [hb0, h0]
  simp only [Bool.not_true]
  clear hb0
  go_enter Tryz.func208, Tryz.ntmps208
  go_wp2_with fail
  go_ret
  exact ⟨by rw [HE.out]; rfl, aU0⟩
 ·
  have h0 : (m == all) = false := by simpa using h0
  have HE := Lib.hid (show mTakes all m k = (m == k) by simp [mTakes, h0])
  have g1 := fun w => eql_opt all k m w
  unfold vOpt at g1 ⊢
  rw [hb0, h0] at g1 ⊢
  simp only [Bool.not_false] at g1 ⊢
  clear hb0
  go_enter Tryz.func208, Tryz.ntmps208
  go_wp2_with fail
  go_ret
  exact ⟨by rw [HE.out]; rfl, aU0⟩
/-- The two patterns and their two scopes lie in memory of the call's own. -/
structure Scopes (w wx : World) (g5 g6 : Nat) (p q : TPattern) : Prop where
 b5 : BoxAt wx g5 236 #[.bool (p.f0 != 0), .int .i64 p.f0, .bool (p.f1 != -1), .int .i64 p.f1]
 b6 : BoxAt wx g6 236 #[.bool (q.f0 != 0), .int .i64 q.f0, .bool (q.f1 != -1), .int .i64 q.f1]
 bp : BoxAt wx w.heap.size 104 #[.int .i64 p.f0, .int .i64 p.f1]
 bq : BoxAt wx (w.heap.size + 1) 104 #[.int .i64 q.f0, .int .i64 q.f1]
 ne : g5 ≠ g6
 l5 : w.heap.size + 2 ≤ g5
 l6 : w.heap.size + 2 ≤ g6
 below : Below w.heap.size w wx
theorem Scopes.new {w wx w1 : World} {g5 g6 : Nat} {p q : TPattern} (h : Scopes w wx g5 g6 p q) (hb : Below wx.heap.size wx w1) : Scopes w w1 g5 g6 p q :=
 ⟨h.b5.new hb, h.b6.new hb, h.bp.new hb, h.bq.new hb, h.ne, h.l5, h.l6, below_trans h.below hb (Nat.le_refl _)⟩
theorem narrower_eq (p q : TPattern) : mIsNarrower p q = (mIsPattern p && mIsPattern q && mTakes 0 q.f0 p.f0 && mTakes (-1) q.f1 p.f1) := by
 unfold mIsNarrower mTakes
 rw [show (p.f0 == q.f0) = (q.f0 == p.f0) from by rw [Bool.eq_iff_iff]; simp; exact eq_comm, show (p.f1 == q.f1) = (q.f1 == p.f1) from by rw [Bool.eq_iff_iff]; simp; exact eq_comm]

set_option maxHeartbeats 40000000 in
theorem impl_IsNarrower (p q : TPattern) (w : World) :
  Calls Tryz.prog 187 #[vPat p, vPat q] w (Says (.bool (mIsNarrower p q)) w) := by
 have C0 := fun W => impl_IsPattern p W
 have C1 := fun W => impl_IsPattern q W
 have C2 := fun W => impl_isWithin 0 p.f0 q.f0 W
 have C3 := fun W => impl_isWithin (-1) p.f1 q.f1 W
 rw [narrower_eq]
 generalize mIsPattern p = b0 at C0 ⊢
 generalize mIsPattern q = b1 at C1 ⊢
 generalize mTakes 0 q.f0 p.f0 = b2 at C2 ⊢
 generalize mTakes (-1) q.f1 p.f1 = b3 at C3 ⊢
 have C0 := Lib.hid C0
 have C1 := Lib.hid C1
 have C2 := Lib.hid C2
 have C3 := Lib.hid C3
 have KB0 : BoxAt ((w.alloc (.cells #[.int .i64 p.f0, .int .i64 p.f1] 104)).alloc (.cells #[.int .i64 q.f0, .int .i64 q.f1] 104)).drew w.heap.size 104 #[.int .i64 p.f0, .int .i64 p.f1] := (((by simpa using box_new w 104 #[.int .i64 p.f0, .int .i64 p.f1] : BoxAt (w.alloc (.cells #[.int .i64 p.f0, .int .i64 p.f1] 104)) w.heap.size 104 #[.int .i64 p.f0, .int .i64 p.f1])).alloc_ (.cells #[.int .i64 q.f0, .int .i64 q.f1] 104)).drw
 have KB1 : BoxAt ((w.alloc (.cells #[.int .i64 p.f0, .int .i64 p.f1] 104)).alloc (.cells #[.int .i64 q.f0, .int .i64 q.f1] 104)).drew (w.heap.size + 1) 104 #[.int .i64 q.f0, .int .i64 q.f1] := ((by simpa using box_new (w.alloc (.cells #[.int .i64 p.f0, .int .i64 p.f1] 104)) 104 #[.int .i64 q.f0, .int .i64 q.f1] : BoxAt ((w.alloc (.cells #[.int .i64 p.f0, .int .i64 p.f1] 104)).alloc (.cells #[.int .i64 q.f0, .int .i64 q.f1] 104)) (w.heap.size + 1) 104 #[.int .i64 q.f0, .int .i64 q.f1])).drw
 have HBw : Below w.heap.size w ((w.alloc (.cells #[.int .i64 p.f0, .int .i64 p.f1] 104)).alloc (.cells #[.int .i64 q.f0, .int .i64 q.f1] 104)).drew := (((Below.refl _ _).alloc (by first | exact Nat.le_refl _ | (simp; done) | (simp; omega)) _).alloc (by first | exact Nat.le_refl _ | (simp; done) | (simp; omega)) _).drew
 go_enter Tryz.func187, Tryz.ntmps187
 go_upto_region 1 with fail
 go_cut [5, 6] (fun s5 s6 wx => ∃ g5 g6 : Nat, s5 = .pointer (some ⟨g5, 0, none⟩) ∧ s6 = .pointer (some ⟨g6, 0, none⟩) ∧ Scopes w wx g5 g6 p q)
 case first =>
  refine wp_region_held_drew (S := fun w' => BoxAt w' w.heap.size 104 #[.int .i64 p.f0, .int .i64 p.f1] ∧ BoxAt w' (w.heap.size + 1) 104 #[.int .i64 q.f0, .int .i64 q.f1] ∧ Below w.heap.size w w') (by kernel_rfl) ?_ (fun hHeld => ?_)
  ·
   exact ⟨KB0, KB1, HBw⟩
  generalize ((w.alloc (.cells #[.int .i64 p.f0, .int .i64 p.f1] 104)).alloc (.cells #[.int .i64 q.f0, .int .i64 q.f1] 104)).drew = x0 at hHeld ⊢
  refine tl 0 7 hHeld rfl ?_ (by intro W hS; obtain ⟨c0_0, c0_1⟩ := (hS.1).p2; obtain ⟨c1_0, c1_1⟩ := (hS.2.1).p2; clear hS; go_simp; try with_reducible rfl); try simp only [ptl]
  refine tl 2 9 hHeld rfl ?_ (by intro W hS; obtain ⟨c0_0, c0_1⟩ := (hS.1).p2; obtain ⟨c1_0, c1_1⟩ := (hS.2.1).p2; clear hS; go_simp; try with_reducible rfl); try simp only [ptl]
  refine wpAnyH_ready (rs := [1, 4, 5]) (by kernel_rfl) (by simp) ?_
  refine AllReadyH.cons (o := ⟨some 8, _, _, _, _, _⟩) rfl (fun K hK => ?_) ?_
  ·
   go_simp
   refine Calls.mono (impl_scopeOf p _) ?_
   rintro e x1 ⟨rfl, hb1⟩
   refine hK.out _ _ ⟨hHeld.1.new hb1, hHeld.2.1.new hb1, below_trans hHeld.2.2 hb1 (Nat.le_refl _)⟩ (fun hHeld' => ?_)
   clear hK K hHeld hb1; have hHeld := hHeld'; clear hHeld'
   try simp only [ptl]
   refine wpAnyH_ready (rs := [3, 4, 5]) (by kernel_rfl) (by simp) ?_
   refine AllReadyH.cons (o := ⟨some 10, _, _, _, _, _⟩) rfl (fun K hK => ?_) ?_
   ·
    go_simp
    refine Calls.mono (impl_scopeOf q _) ?_
    rintro e x2 ⟨rfl, hb1⟩
    refine hK.out _ _ ⟨hHeld.1.new hb1, hHeld.2.1.new hb1, below_trans hHeld.2.2 hb1 (Nat.le_refl _)⟩ (fun hHeld' => ?_)
    clear hK K hHeld hb1; have hHeld := hHeld'; clear hHeld'
    try simp only [ptl]
    refine wpAnyH_ready (rs := [4, 5]) (by kernel_rfl) (by simp) ?_
    refine AllReadyH.cons (o := ⟨some 5, _, _, _, _, _⟩) rfl (fun K hK => ?_) ?_
    ·
     go_simp
     have GA := box_new (x2) 236 #[.bool false, .int .i64 0, .bool false, .int .i64 0]
     have hb1 := (Below.refl (x2).heap.size (x2)).alloc (Nat.le_refl _) (.cells #[.bool false, .int .i64 0, .bool false, .int .i64 0] 236)
     have LA : w.heap.size + 2 ≤ (x2).heap.size := by have := (hHeld.1).lt; have := (hHeld.2.1).lt; have := (hHeld.2.2).size; omega
     generalize (x2).alloc (.cells #[.bool false, .int .i64 0, .bool false, .int .i64 0] 236) = x3 at hb1 GA  ⊢
     generalize hg : (x2).heap.size = gA at GA LA  ⊢
     clear hg
     refine hK.out _ _ ⟨hHeld.1.new hb1, hHeld.2.1.new hb1, below_trans hHeld.2.2 hb1 (Nat.le_refl _)⟩ (fun hHeld' => ?_)
     clear hK K hHeld hb1; have hHeld := hHeld'; clear hHeld'
     try simp only [ptl]
     refine rd1 (i := 5) (o := ⟨some 6, _, _, _, _, _⟩) rfl (fun K hK => ?_)
     go_simp
     have GB := box_new (x3) 236 #[.bool false, .int .i64 0, .bool false, .int .i64 0]
     have hb1 := (Below.refl (x3).heap.size (x3)).alloc (Nat.le_refl _) (.cells #[.bool false, .int .i64 0, .bool false, .int .i64 0] 236)
     have LB : w.heap.size + 2 ≤ (x3).heap.size := by have := (hHeld.1).lt; have := (hHeld.2.1).lt; have := (hHeld.2.2).size; omega
     have NAB : gA < (x3).heap.size := GA.lt
     replace GA := GA.new hb1
     generalize (x3).alloc (.cells #[.bool false, .int .i64 0, .bool false, .int .i64 0] 236) = x4 at hb1 GB GA ⊢
     generalize hg : (x3).heap.size = gB at GB LB NAB ⊢
     clear hg
     refine hK.out _ _ ⟨hHeld.1.new hb1, hHeld.2.1.new hb1, below_trans hHeld.2.2 hb1 (Nat.le_refl _)⟩ (fun hHeld' => ?_)
     clear hK K hHeld hb1; have hHeld := hHeld'; clear hHeld'
     try simp only [ptl]
     refine rd1 (i := 6) (o := ⟨none, _, _, _, _, _⟩) rfl (fun K hK => ?_)
     rw [if_pos (by rfl)]
     refine wp_store_row 236 _ _ rfl gA #[.bool (p.f0 != 0), .int .i64 p.f0, .bool (p.f1 != -1), .int .i64 p.f1] rfl rfl 236 _ GA (by kernel_rfl) (by kernel_rfl) (by kernel_rfl) ?_
     replace GA := box_row (cs := #[.bool (p.f0 != 0), .int .i64 p.f0, .bool (p.f1 != -1), .int .i64 p.f1]) GA
     replace GB := box_far (cs := #[.bool (p.f0 != 0), .int .i64 p.f0, .bool (p.f1 != -1), .int .i64 p.f1]) (g := gA) GB (by omega)
     have hc1 := chg_row x4 gA #[.bool (p.f0 != 0), .int .i64 p.f0, .bool (p.f1 != -1), .int .i64 p.f1]
     have hHeld2 : BoxAt (World.setRow x4 gA #[.bool (p.f0 != 0), .int .i64 p.f0, .bool (p.f1 != -1), .int .i64 p.f1]) w.heap.size 104 #[.int .i64 p.f0, .int .i64 p.f1] ∧ BoxAt (World.setRow x4 gA #[.bool (p.f0 != 0), .int .i64 p.f0, .bool (p.f1 != -1), .int .i64 p.f1]) (w.heap.size + 1) 104 #[.int .i64 q.f0, .int .i64 q.f1] ∧ Below w.heap.size w (World.setRow x4 gA #[.bool (p.f0 != 0), .int .i64 p.f0, .bool (p.f1 != -1), .int .i64 p.f1]) := ⟨hHeld.1.chg hc1 (by omega), hHeld.2.1.chg hc1 (by omega), below_setRow hHeld.2.2 (by omega) _⟩
     clear hc1
     generalize World.setRow x4 gA #[.bool (p.f0 != 0), .int .i64 p.f0, .bool (p.f1 != -1), .int .i64 p.f1] = x5 at hHeld2 GA GB ⊢
     refine hK.out _ _ hHeld2 (fun hHeld' => ?_)
     clear hHeld2
     clear hK K hHeld; have hHeld := hHeld'; clear hHeld'
     try simp only [ptl]
     refine rd1 (i := 7) (o := ⟨none, _, _, _, _, _⟩) rfl (fun K hK => ?_)
     rw [if_pos (by rfl)]
     refine wp_store_row 236 _ _ rfl gB #[.bool (q.f0 != 0), .int .i64 q.f0, .bool (q.f1 != -1), .int .i64 q.f1] rfl rfl 236 _ GB (by kernel_rfl) (by kernel_rfl) (by kernel_rfl) ?_
     replace GA := box_far (cs := #[.bool (q.f0 != 0), .int .i64 q.f0, .bool (q.f1 != -1), .int .i64 q.f1]) (g := gB) GA (by omega)
     replace GB := box_row (cs := #[.bool (q.f0 != 0), .int .i64 q.f0, .bool (q.f1 != -1), .int .i64 q.f1]) GB
     have hc1 := chg_row x5 gB #[.bool (q.f0 != 0), .int .i64 q.f0, .bool (q.f1 != -1), .int .i64 q.f1]
     have hHeld2 : BoxAt (World.setRow x5 gB #[.bool (q.f0 != 0), .int .i64 q.f0, .bool (q.f1 != -1), .int .i64 q.f1]) w.heap.size 104 #[.int .i64 p.f0, .int .i64 p.f1] ∧ BoxAt (World.setRow x5 gB #[.bool (q.f0 != 0), .int .i64 q.f0, .bool (q.f1 != -1), .int .i64 q.f1]) (w.heap.size + 1) 104 #[.int .i64 q.f0, .int .i64 q.f1] ∧ Below w.heap.size w (World.setRow x5 gB #[.bool (q.f0 != 0), .int .i64 q.f0, .bool (q.f1 != -1), .int .i64 q.f1]) := ⟨hHeld.1.chg hc1 (by omega), hHeld.2.1.chg hc1 (by omega), below_setRow hHeld.2.2 (by omega) _⟩
     clear hc1
     generalize World.setRow x5 gB #[.bool (q.f0 != 0), .int .i64 q.f0, .bool (q.f1 != -1), .int .i64 q.f1] = x6 at hHeld2 GA GB ⊢
     refine hK.out _ _ hHeld2 (fun hHeld' => ?_)
     clear hHeld2
     clear hK K hHeld; have hHeld := hHeld'; clear hHeld'
     try simp only [ptl]
     refine wpAnyH_done (by kernel_rfl) ?_ _
     go_wp2_with fail
     go_meet
     exact ⟨gA, gB, rfl, rfl, GA, GB, hHeld.1, hHeld.2.1, by omega, LA, LB, hHeld.2.2⟩
    refine AllReadyH.cons (o := ⟨some 6, _, _, _, _, _⟩) rfl (fun K hK => ?_) ?_
    ·
     go_simp
     have GB := box_new (x2) 236 #[.bool false, .int .i64 0, .bool false, .int .i64 0]
     have hb1 := (Below.refl (x2).heap.size (x2)).alloc (Nat.le_refl _) (.cells #[.bool false, .int .i64 0, .bool false, .int .i64 0] 236)
     have LB : w.heap.size + 2 ≤ (x2).heap.size := by have := (hHeld.1).lt; have := (hHeld.2.1).lt; have := (hHeld.2.2).size; omega
     generalize (x2).alloc (.cells #[.bool false, .int .i64 0, .bool false, .int .i64 0] 236) = x3 at hb1 GB  ⊢
     generalize hg : (x2).heap.size = gB at GB LB  ⊢
     clear hg
     refine hK.out _ _ ⟨hHeld.1.new hb1, hHeld.2.1.new hb1, below_trans hHeld.2.2 hb1 (Nat.le_refl _)⟩ (fun hHeld' => ?_)
     clear hK K hHeld hb1; have hHeld := hHeld'; clear hHeld'
     try simp only [ptl]
     refine rd1 (i := 4) (o := ⟨some 5, _, _, _, _, _⟩) rfl (fun K hK => ?_)
     go_simp
     have GA := box_new (x3) 236 #[.bool false, .int .i64 0, .bool false, .int .i64 0]
     have hb1 := (Below.refl (x3).heap.size (x3)).alloc (Nat.le_refl _) (.cells #[.bool false, .int .i64 0, .bool false, .int .i64 0] 236)
     have LA : w.heap.size + 2 ≤ (x3).heap.size := by have := (hHeld.1).lt; have := (hHeld.2.1).lt; have := (hHeld.2.2).size; omega
     have NBA : gB < (x3).heap.size := GB.lt
     replace GB := GB.new hb1
     generalize (x3).alloc (.cells #[.bool false, .int .i64 0, .bool false, .int .i64 0] 236) = x4 at hb1 GA GB ⊢
     generalize hg : (x3).heap.size = gA at GA LA NBA ⊢
     clear hg
     refine hK.out _ _ ⟨hHeld.1.new hb1, hHeld.2.1.new hb1, below_trans hHeld.2.2 hb1 (Nat.le_refl _)⟩ (fun hHeld' => ?_)
     clear hK K hHeld hb1; have hHeld := hHeld'; clear hHeld'
     try simp only [ptl]
     refine rd1 (i := 6) (o := ⟨none, _, _, _, _, _⟩) rfl (fun K hK => ?_)
     rw [if_pos (by rfl)]
     refine wp_store_row 236 _ _ rfl gA #[.bool (p.f0 != 0), .int .i64 p.f0, .bool (p.f1 != -1), .int .i64 p.f1] rfl rfl 236 _ GA (by kernel_rfl) (by kernel_rfl) (by kernel_rfl) ?_
     replace GB := box_far (cs := #[.bool (p.f0 != 0), .int .i64 p.f0, .bool (p.f1 != -1), .int .i64 p.f1]) (g := gA) GB (by omega)
     replace GA := box_row (cs := #[.bool (p.f0 != 0), .int .i64 p.f0, .bool (p.f1 != -1), .int .i64 p.f1]) GA
     have hc1 := chg_row x4 gA #[.bool (p.f0 != 0), .int .i64 p.f0, .bool (p.f1 != -1), .int .i64 p.f1]
     have hHeld2 : BoxAt (World.setRow x4 gA #[.bool (p.f0 != 0), .int .i64 p.f0, .bool (p.f1 != -1), .int .i64 p.f1]) w.heap.size 104 #[.int .i64 p.f0, .int .i64 p.f1] ∧ BoxAt (World.setRow x4 gA #[.bool (p.f0 != 0), .int .i64 p.f0, .bool (p.f1 != -1), .int .i64 p.f1]) (w.heap.size + 1) 104 #[.int .i64 q.f0, .int .i64 q.f1] ∧ Below w.heap.size w (World.setRow x4 gA #[.bool (p.f0 != 0), .int .i64 p.f0, .bool (p.f1 != -1), .int .i64 p.f1]) := ⟨hHeld.1.chg hc1 (by omega), hHeld.2.1.chg hc1 (by omega), below_setRow hHeld.2.2 (by omega) _⟩
     clear hc1
     generalize World.setRow x4 gA #[.bool (p.f0 != 0), .int .i64 p.f0, .bool (p.f1 != -1), .int .i64 p.f1] = x5 at hHeld2 GB GA ⊢
     refine hK.out _ _ hHeld2 (fun hHeld' => ?_)
     clear hHeld2
     clear hK K hHeld; have hHeld := hHeld'; clear hHeld'
     try simp only [ptl]
     refine rd1 (i := 7) (o := ⟨none, _, _, _, _, _⟩) rfl (fun K hK => ?_)
     rw [if_pos (by rfl)]
     refine wp_store_row 236 _ _ rfl gB #[.bool (q.f0 != 0), .int .i64 q.f0, .bool (q.f1 != -1), .int .i64 q.f1] rfl rfl 236 _ GB (by kernel_rfl) (by kernel_rfl) (by kernel_rfl) ?_
     replace GB := box_row (cs := #[.bool (q.f0 != 0), .int .i64 q.f0, .bool (q.f1 != -1), .int .i64 q.f1]) GB
     replace GA := box_far (cs := #[.bool (q.f0 != 0), .int .i64 q.f0, .bool (q.f1 != -1), .int .i64 q.f1]) (g := gB) GA (by omega)
     have hc1 := chg_row x5 gB #[.bool (q.f0 != 0), .int .i64 q.f0, .bool (q.f1 != -1), .int .i64 q.f1]
     have hHeld2 : BoxAt (World.setRow x5 gB #[.bool (q.f0 != 0), .int .i64 q.f0, .bool (q.f1 != -1), .int .i64 q.f1]) w.heap.size 104 #[.int .i64 p.f0, .int .i64 p.f1] ∧ BoxAt (World.setRow x5 gB #[.bool (q.f0 != 0), .int .i64 q.f0, .bool (q.f1 != -1), .int .i64 q.f1]) (w.heap.size + 1) 104 #[.int .i64 q.f0, .int .i64 q.f1] ∧ Below w.heap.size w (World.setRow x5 gB #[.bool (q.f0 != 0), .int .i64 q.f0, .bool (q.f1 != -1), .int .i64 q.f1]) := ⟨hHeld.1.chg hc1 (by omega), hHeld.2.1.chg hc1 (by omega), below_setRow hHeld.2.2 (by omega) _⟩
     clear hc1
     generalize World.setRow x5 gB #[.bool (q.f0 != 0), .int .i64 q.f0, .bool (q.f1 != -1), .int .i64 q.f1] = x6 at hHeld2 GB GA ⊢
     refine hK.out _ _ hHeld2 (fun hHeld' => ?_)
     clear hHeld2
     clear hK K hHeld; have hHeld := hHeld'; clear hHeld'
     try simp only [ptl]
     refine wpAnyH_done (by kernel_rfl) ?_ _
     go_wp2_with fail
     go_meet
     exact ⟨gA, gB, rfl, rfl, GA, GB, hHeld.1, hHeld.2.1, by omega, LA, LB, hHeld.2.2⟩
    exact AllReadyH.nil
   refine AllReadyH.cons (o := ⟨some 5, _, _, _, _, _⟩) rfl (fun K hK => ?_) ?_
   ·
    go_simp
    have GA := box_new (x1) 236 #[.bool false, .int .i64 0, .bool false, .int .i64 0]
    have hb1 := (Below.refl (x1).heap.size (x1)).alloc (Nat.le_refl _) (.cells #[.bool false, .int .i64 0, .bool false, .int .i64 0] 236)
    have LA : w.heap.size + 2 ≤ (x1).heap.size := by have := (hHeld.1).lt; have := (hHeld.2.1).lt; have := (hHeld.2.2).size; omega
    generalize (x1).alloc (.cells #[.bool false, .int .i64 0, .bool false, .int .i64 0] 236) = x2 at hb1 GA  ⊢
    generalize hg : (x1).heap.size = gA at GA LA  ⊢
    clear hg
    refine hK.out _ _ ⟨hHeld.1.new hb1, hHeld.2.1.new hb1, below_trans hHeld.2.2 hb1 (Nat.le_refl _)⟩ (fun hHeld' => ?_)
    clear hK K hHeld hb1; have hHeld := hHeld'; clear hHeld'
    try simp only [ptl]
    refine wpAnyH_ready (rs := [3, 5]) (by kernel_rfl) (by simp) ?_
    refine AllReadyH.cons (o := ⟨some 10, _, _, _, _, _⟩) rfl (fun K hK => ?_) ?_
    ·
     go_simp
     refine Calls.mono (impl_scopeOf q _) ?_
     rintro e x3 ⟨rfl, hb1⟩
     replace GA := GA.new hb1
     refine hK.out _ _ ⟨hHeld.1.new hb1, hHeld.2.1.new hb1, below_trans hHeld.2.2 hb1 (Nat.le_refl _)⟩ (fun hHeld' => ?_)
     clear hK K hHeld hb1; have hHeld := hHeld'; clear hHeld'
     try simp only [ptl]
     refine rd1 (i := 5) (o := ⟨some 6, _, _, _, _, _⟩) rfl (fun K hK => ?_)
     go_simp
     have GB := box_new (x3) 236 #[.bool false, .int .i64 0, .bool false, .int .i64 0]
     have hb1 := (Below.refl (x3).heap.size (x3)).alloc (Nat.le_refl _) (.cells #[.bool false, .int .i64 0, .bool false, .int .i64 0] 236)
     have LB : w.heap.size + 2 ≤ (x3).heap.size := by have := (hHeld.1).lt; have := (hHeld.2.1).lt; have := (hHeld.2.2).size; omega
     have NAB : gA < (x3).heap.size := GA.lt
     replace GA := GA.new hb1
     generalize (x3).alloc (.cells #[.bool false, .int .i64 0, .bool false, .int .i64 0] 236) = x4 at hb1 GB GA ⊢
     generalize hg : (x3).heap.size = gB at GB LB NAB ⊢
     clear hg
     refine hK.out _ _ ⟨hHeld.1.new hb1, hHeld.2.1.new hb1, below_trans hHeld.2.2 hb1 (Nat.le_refl _)⟩ (fun hHeld' => ?_)
     clear hK K hHeld hb1; have hHeld := hHeld'; clear hHeld'
     try simp only [ptl]
     refine rd1 (i := 6) (o := ⟨none, _, _, _, _, _⟩) rfl (fun K hK => ?_)
     rw [if_pos (by rfl)]
     refine wp_store_row 236 _ _ rfl gA #[.bool (p.f0 != 0), .int .i64 p.f0, .bool (p.f1 != -1), .int .i64 p.f1] rfl rfl 236 _ GA (by kernel_rfl) (by kernel_rfl) (by kernel_rfl) ?_
     replace GA := box_row (cs := #[.bool (p.f0 != 0), .int .i64 p.f0, .bool (p.f1 != -1), .int .i64 p.f1]) GA
     replace GB := box_far (cs := #[.bool (p.f0 != 0), .int .i64 p.f0, .bool (p.f1 != -1), .int .i64 p.f1]) (g := gA) GB (by omega)
     have hc1 := chg_row x4 gA #[.bool (p.f0 != 0), .int .i64 p.f0, .bool (p.f1 != -1), .int .i64 p.f1]
     have hHeld2 : BoxAt (World.setRow x4 gA #[.bool (p.f0 != 0), .int .i64 p.f0, .bool (p.f1 != -1), .int .i64 p.f1]) w.heap.size 104 #[.int .i64 p.f0, .int .i64 p.f1] ∧ BoxAt (World.setRow x4 gA #[.bool (p.f0 != 0), .int .i64 p.f0, .bool (p.f1 != -1), .int .i64 p.f1]) (w.heap.size + 1) 104 #[.int .i64 q.f0, .int .i64 q.f1] ∧ Below w.heap.size w (World.setRow x4 gA #[.bool (p.f0 != 0), .int .i64 p.f0, .bool (p.f1 != -1), .int .i64 p.f1]) := ⟨hHeld.1.chg hc1 (by omega), hHeld.2.1.chg hc1 (by omega), below_setRow hHeld.2.2 (by omega) _⟩
     clear hc1
     generalize World.setRow x4 gA #[.bool (p.f0 != 0), .int .i64 p.f0, .bool (p.f1 != -1), .int .i64 p.f1] = x5 at hHeld2 GA GB ⊢
     refine hK.out _ _ hHeld2 (fun hHeld' => ?_)
     clear hHeld2
     clear hK K hHeld; have hHeld := hHeld'; clear hHeld'
     try simp only [ptl]
     refine rd1 (i := 7) (o := ⟨none, _, _, _, _, _⟩) rfl (fun K hK => ?_)
     rw [if_pos (by rfl)]
     refine wp_store_row 236 _ _ rfl gB #[.bool (q.f0 != 0), .int .i64 q.f0, .bool (q.f1 != -1), .int .i64 q.f1] rfl rfl 236 _ GB (by kernel_rfl) (by kernel_rfl) (by kernel_rfl) ?_
     replace GA := box_far (cs := #[.bool (q.f0 != 0), .int .i64 q.f0, .bool (q.f1 != -1), .int .i64 q.f1]) (g := gB) GA (by omega)
     replace GB := box_row (cs := #[.bool (q.f0 != 0), .int .i64 q.f0, .bool (q.f1 != -1), .int .i64 q.f1]) GB
     have hc1 := chg_row x5 gB #[.bool (q.f0 != 0), .int .i64 q.f0, .bool (q.f1 != -1), .int .i64 q.f1]
     have hHeld2 : BoxAt (World.setRow x5 gB #[.bool (q.f0 != 0), .int .i64 q.f0, .bool (q.f1 != -1), .int .i64 q.f1]) w.heap.size 104 #[.int .i64 p.f0, .int .i64 p.f1] ∧ BoxAt (World.setRow x5 gB #[.bool (q.f0 != 0), .int .i64 q.f0, .bool (q.f1 != -1), .int .i64 q.f1]) (w.heap.size + 1) 104 #[.int .i64 q.f0, .int .i64 q.f1] ∧ Below w.heap.size w (World.setRow x5 gB #[.bool (q.f0 != 0), .int .i64 q.f0, .bool (q.f1 != -1), .int .i64 q.f1]) := ⟨hHeld.1.chg hc1 (by omega), hHeld.2.1.chg hc1 (by omega), below_setRow hHeld.2.2 (by omega) _⟩
     clear hc1
     generalize World.setRow x5 gB #[.bool (q.f0 != 0), .int .i64 q.f0, .bool (q.f1 != -1), .int .i64 q.f1] = x6 at hHeld2 GA GB ⊢
     refine hK.out _ _ hHeld2 (fun hHeld' => ?_)
     clear hHeld2
     clear hK K hHeld; have hHeld := hHeld'; clear hHeld'
     try simp only [ptl]
     refine wpAnyH_done (by kernel_rfl) ?_ _
     go_wp2_with fail
     go_meet
     exact ⟨gA, gB, rfl, rfl, GA, GB, hHeld.1, hHeld.2.1, by omega, LA, LB, hHeld.2.2⟩
    refine AllReadyH.cons (o := ⟨some 6, _, _, _, _, _⟩) rfl (fun K hK => ?_) ?_
    ·
     go_simp
     have GB := box_new (x2) 236 #[.bool false, .int .i64 0, .bool false, .int .i64 0]
     have hb1 := (Below.refl (x2).heap.size (x2)).alloc (Nat.le_refl _) (.cells #[.bool false, .int .i64 0, .bool false, .int .i64 0] 236)
     have LB : w.heap.size + 2 ≤ (x2).heap.size := by have := (hHeld.1).lt; have := (hHeld.2.1).lt; have := (hHeld.2.2).size; omega
     have NAB : gA < (x2).heap.size := GA.lt
     replace GA := GA.new hb1
     generalize (x2).alloc (.cells #[.bool false, .int .i64 0, .bool false, .int .i64 0] 236) = x3 at hb1 GB GA ⊢
     generalize hg : (x2).heap.size = gB at GB LB NAB ⊢
     clear hg
     refine hK.out _ _ ⟨hHeld.1.new hb1, hHeld.2.1.new hb1, below_trans hHeld.2.2 hb1 (Nat.le_refl _)⟩ (fun hHeld' => ?_)
     clear hK K hHeld hb1; have hHeld := hHeld'; clear hHeld'
     try simp only [ptl]
     refine rd1 (i := 3) (o := ⟨some 10, _, _, _, _, _⟩) rfl (fun K hK => ?_)
     go_simp
     refine Calls.mono (impl_scopeOf q _) ?_
     rintro e x4 ⟨rfl, hb1⟩
     replace GA := GA.new hb1
     replace GB := GB.new hb1
     refine hK.out _ _ ⟨hHeld.1.new hb1, hHeld.2.1.new hb1, below_trans hHeld.2.2 hb1 (Nat.le_refl _)⟩ (fun hHeld' => ?_)
     clear hK K hHeld hb1; have hHeld := hHeld'; clear hHeld'
     try simp only [ptl]
     refine rd1 (i := 6) (o := ⟨none, _, _, _, _, _⟩) rfl (fun K hK => ?_)
     rw [if_pos (by rfl)]
     refine wp_store_row 236 _ _ rfl gA #[.bool (p.f0 != 0), .int .i64 p.f0, .bool (p.f1 != -1), .int .i64 p.f1] rfl rfl 236 _ GA (by kernel_rfl) (by kernel_rfl) (by kernel_rfl) ?_
     replace GA := box_row (cs := #[.bool (p.f0 != 0), .int .i64 p.f0, .bool (p.f1 != -1), .int .i64 p.f1]) GA
     replace GB := box_far (cs := #[.bool (p.f0 != 0), .int .i64 p.f0, .bool (p.f1 != -1), .int .i64 p.f1]) (g := gA) GB (by omega)
     have hc1 := chg_row x4 gA #[.bool (p.f0 != 0), .int .i64 p.f0, .bool (p.f1 != -1), .int .i64 p.f1]
     have hHeld2 : BoxAt (World.setRow x4 gA #[.bool (p.f0 != 0), .int .i64 p.f0, .bool (p.f1 != -1), .int .i64 p.f1]) w.heap.size 104 #[.int .i64 p.f0, .int .i64 p.f1] ∧ BoxAt (World.setRow x4 gA #[.bool (p.f0 != 0), .int .i64 p.f0, .bool (p.f1 != -1), .int .i64 p.f1]) (w.heap.size + 1) 104 #[.int .i64 q.f0, .int .i64 q.f1] ∧ Below w.heap.size w (World.setRow x4 gA #[.bool (p.f0 != 0), .int .i64 p.f0, .bool (p.f1 != -1), .int .i64 p.f1]) := ⟨hHeld.1.chg hc1 (by omega), hHeld.2.1.chg hc1 (by omega), below_setRow hHeld.2.2 (by omega) _⟩
     clear hc1
     generalize World.setRow x4 gA #[.bool (p.f0 != 0), .int .i64 p.f0, .bool (p.f1 != -1), .int .i64 p.f1] = x5 at hHeld2 GA GB ⊢
     refine hK.out _ _ hHeld2 (fun hHeld' => ?_)
     clear hHeld2
     clear hK K hHeld; have hHeld := hHeld'; clear hHeld'
     try simp only [ptl]
     refine rd1 (i := 7) (o := ⟨none, _, _, _, _, _⟩) rfl (fun K hK => ?_)
     rw [if_pos (by rfl)]
     refine wp_store_row 236 _ _ rfl gB #[.bool (q.f0 != 0), .int .i64 q.f0, .bool (q.f1 != -1), .int .i64 q.f1] rfl rfl 236 _ GB (by kernel_rfl) (by kernel_rfl) (by kernel_rfl) ?_
     replace GA := box_far (cs := #[.bool (q.f0 != 0), .int .i64 q.f0, .bool (q.f1 != -1), .int .i64 q.f1]) (g := gB) GA (by omega)
     replace GB := box_row (cs := #[.bool (q.f0 != 0), .int .i64 q.f0, .bool (q.f1 != -1), .int .i64 q.f1]) GB
     have hc1 := chg_row x5 gB #[.bool (q.f0 != 0), .int .i64 q.f0, .bool (q.f1 != -1), .int .i64 q.f1]
     have hHeld2 : BoxAt (World.setRow x5 gB #[.bool (q.f0 != 0), .int .i64 q.f0, .bool (q.f1 != -1), .int .i64 q.f1]) w.heap.size 104 #[.int .i64 p.f0, .int .i64 p.f1] ∧ BoxAt (World.setRow x5 gB #[.bool (q.f0 != 0), .int .i64 q.f0, .bool (q.f1 != -1), .int .i64 q.f1]) (w.heap.size + 1) 104 #[.int .i64 q.f0, .int .i64 q.f1] ∧ Below w.heap.size w (World.setRow x5 gB #[.bool (q.f0 != 0), .int .i64 q.f0, .bool (q.f1 != -1), .int .i64 q.f1]) := ⟨hHeld.1.chg hc1 (by omega), hHeld.2.1.chg hc1 (by omega), below_setRow hHeld.2.2 (by omega) _⟩
     clear hc1
     generalize World.setRow x5 gB #[.bool (q.f0 != 0), .int .i64 q.f0, .bool (q.f1 != -1), .int .i64 q.f1] = x6 at hHeld2 GA GB ⊢
     refine hK.out _ _ hHeld2 (fun hHeld' => ?_)
     clear hHeld2
     clear hK K hHeld; have hHeld := hHeld'; clear hHeld'
     try simp only [ptl]
     refine wpAnyH_done (by kernel_rfl) ?_ _
     go_wp2_with fail
     go_meet
     exact ⟨gA, gB, rfl, rfl, GA, GB, hHeld.1, hHeld.2.1, by omega, LA, LB, hHeld.2.2⟩
    exact AllReadyH.nil
   refine AllReadyH.cons (o := ⟨some 6, _, _, _, _, _⟩) rfl (fun K hK => ?_) ?_
   ·
    go_simp
    have GB := box_new (x1) 236 #[.bool false, .int .i64 0, .bool false, .int .i64 0]
    have hb1 := (Below.refl (x1).heap.size (x1)).alloc (Nat.le_refl _) (.cells #[.bool false, .int .i64 0, .bool false, .int .i64 0] 236)
    have LB : w.heap.size + 2 ≤ (x1).heap.size := by have := (hHeld.1).lt; have := (hHeld.2.1).lt; have := (hHeld.2.2).size; omega
    generalize (x1).alloc (.cells #[.bool false, .int .i64 0, .bool false, .int .i64 0] 236) = x2 at hb1 GB  ⊢
    generalize hg : (x1).heap.size = gB at GB LB  ⊢
    clear hg
    refine hK.out _ _ ⟨hHeld.1.new hb1, hHeld.2.1.new hb1, below_trans hHeld.2.2 hb1 (Nat.le_refl _)⟩ (fun hHeld' => ?_)
    clear hK K hHeld hb1; have hHeld := hHeld'; clear hHeld'
    try simp only [ptl]
    refine wpAnyH_ready (rs := [3, 4]) (by kernel_rfl) (by simp) ?_
    refine AllReadyH.cons (o := ⟨some 10, _, _, _, _, _⟩) rfl (fun K hK => ?_) ?_
    ·
     go_simp
     refine Calls.mono (impl_scopeOf q _) ?_
     rintro e x3 ⟨rfl, hb1⟩
     replace GB := GB.new hb1
     refine hK.out _ _ ⟨hHeld.1.new hb1, hHeld.2.1.new hb1, below_trans hHeld.2.2 hb1 (Nat.le_refl _)⟩ (fun hHeld' => ?_)
     clear hK K hHeld hb1; have hHeld := hHeld'; clear hHeld'
     try simp only [ptl]
     refine rd1 (i := 4) (o := ⟨some 5, _, _, _, _, _⟩) rfl (fun K hK => ?_)
     go_simp
     have GA := box_new (x3) 236 #[.bool false, .int .i64 0, .bool false, .int .i64 0]
     have hb1 := (Below.refl (x3).heap.size (x3)).alloc (Nat.le_refl _) (.cells #[.bool false, .int .i64 0, .bool false, .int .i64 0] 236)
     have LA : w.heap.size + 2 ≤ (x3).heap.size := by have := (hHeld.1).lt; have := (hHeld.2.1).lt; have := (hHeld.2.2).size; omega
     have NBA : gB < (x3).heap.size := GB.lt
     replace GB := GB.new hb1
     generalize (x3).alloc (.cells #[.bool false, .int .i64 0, .bool false, .int .i64 0] 236) = x4 at hb1 GA GB ⊢
     generalize hg : (x3).heap.size = gA at GA LA NBA ⊢
     clear hg
     refine hK.out _ _ ⟨hHeld.1.new hb1, hHeld.2.1.new hb1, below_trans hHeld.2.2 hb1 (Nat.le_refl _)⟩ (fun hHeld' => ?_)
     clear hK K hHeld hb1; have hHeld := hHeld'; clear hHeld'
     try simp only [ptl]
     refine rd1 (i := 6) (o := ⟨none, _, _, _, _, _⟩) rfl (fun K hK => ?_)
     rw [if_pos (by rfl)]
     refine wp_store_row 236 _ _ rfl gA #[.bool (p.f0 != 0), .int .i64 p.f0, .bool (p.f1 != -1), .int .i64 p.f1] rfl rfl 236 _ GA (by kernel_rfl) (by kernel_rfl) (by kernel_rfl) ?_
     replace GB := box_far (cs := #[.bool (p.f0 != 0), .int .i64 p.f0, .bool (p.f1 != -1), .int .i64 p.f1]) (g := gA) GB (by omega)
     replace GA := box_row (cs := #[.bool (p.f0 != 0), .int .i64 p.f0, .bool (p.f1 != -1), .int .i64 p.f1]) GA
     have hc1 := chg_row x4 gA #[.bool (p.f0 != 0), .int .i64 p.f0, .bool (p.f1 != -1), .int .i64 p.f1]
     have hHeld2 : BoxAt (World.setRow x4 gA #[.bool (p.f0 != 0), .int .i64 p.f0, .bool (p.f1 != -1), .int .i64 p.f1]) w.heap.size 104 #[.int .i64 p.f0, .int .i64 p.f1] ∧ BoxAt (World.setRow x4 gA #[.bool (p.f0 != 0), .int .i64 p.f0, .bool (p.f1 != -1), .int .i64 p.f1]) (w.heap.size + 1) 104 #[.int .i64 q.f0, .int .i64 q.f1] ∧ Below w.heap.size w (World.setRow x4 gA #[.bool (p.f0 != 0), .int .i64 p.f0, .bool (p.f1 != -1), .int .i64 p.f1]) := ⟨hHeld.1.chg hc1 (by omega), hHeld.2.1.chg hc1 (by omega), below_setRow hHeld.2.2 (by omega) _⟩
     clear hc1
     generalize World.setRow x4 gA #[.bool (p.f0 != 0), .int .i64 p.f0, .bool (p.f1 != -1), .int .i64 p.f1] = x5 at hHeld2 GB GA ⊢
     refine hK.out _ _ hHeld2 (fun hHeld' => ?_)
     clear hHeld2
     clear hK K hHeld; have hHeld := hHeld'; clear hHeld'
     try simp only [ptl]
     refine rd1 (i := 7) (o := ⟨none, _, _, _, _, _⟩) rfl (fun K hK => ?_)
     rw [if_pos (by rfl)]
     refine wp_store_row 236 _ _ rfl gB #[.bool (q.f0 != 0), .int .i64 q.f0, .bool (q.f1 != -1), .int .i64 q.f1] rfl rfl 236 _ GB (by kernel_rfl) (by kernel_rfl) (by kernel_rfl) ?_
     replace GB := box_row (cs := #[.bool (q.f0 != 0), .int .i64 q.f0, .bool (q.f1 != -1), .int .i64 q.f1]) GB
     replace GA := box_far (cs := #[.bool (q.f0 != 0), .int .i64 q.f0, .bool (q.f1 != -1), .int .i64 q.f1]) (g := gB) GA (by omega)
     have hc1 := chg_row x5 gB #[.bool (q.f0 != 0), .int .i64 q.f0, .bool (q.f1 != -1), .int .i64 q.f1]
     have hHeld2 : BoxAt (World.setRow x5 gB #[.bool (q.f0 != 0), .int .i64 q.f0, .bool (q.f1 != -1), .int .i64 q.f1]) w.heap.size 104 #[.int .i64 p.f0, .int .i64 p.f1] ∧ BoxAt (World.setRow x5 gB #[.bool (q.f0 != 0), .int .i64 q.f0, .bool (q.f1 != -1), .int .i64 q.f1]) (w.heap.size + 1) 104 #[.int .i64 q.f0, .int .i64 q.f1] ∧ Below w.heap.size w (World.setRow x5 gB #[.bool (q.f0 != 0), .int .i64 q.f0, .bool (q.f1 != -1), .int .i64 q.f1]) := ⟨hHeld.1.chg hc1 (by omega), hHeld.2.1.chg hc1 (by omega), below_setRow hHeld.2.2 (by omega) _⟩
     clear hc1
     generalize World.setRow x5 gB #[.bool (q.f0 != 0), .int .i64 q.f0, .bool (q.f1 != -1), .int .i64 q.f1] = x6 at hHeld2 GB GA ⊢
     refine hK.out _ _ hHeld2 (fun hHeld' => ?_)
     clear hHeld2
     clear hK K hHeld; have hHeld := hHeld'; clear hHeld'
     try simp only [ptl]
     refine wpAnyH_done (by kernel_rfl) ?_ _
     go_wp2_with fail
     go_meet
     exact ⟨gA, gB, rfl, rfl, GA, GB, hHeld.1, hHeld.2.1, by omega, LA, LB, hHeld.2.2⟩
    refine AllReadyH.cons (o := ⟨some 5, _, _, _, _, _⟩) rfl (fun K hK => ?_) ?_
    ·
     go_simp
     have GA := box_new (x2) 236 #[.bool false, .int .i64 0, .bool false, .int .i64 0]
     have hb1 := (Below.refl (x2).heap.size (x2)).alloc (Nat.le_refl _) (.cells #[.bool false, .int .i64 0, .bool false, .int .i64 0] 236)
     have LA : w.heap.size + 2 ≤ (x2).heap.size := by have := (hHeld.1).lt; have := (hHeld.2.1).lt; have := (hHeld.2.2).size; omega
     have NBA : gB < (x2).heap.size := GB.lt
     replace GB := GB.new hb1
     generalize (x2).alloc (.cells #[.bool false, .int .i64 0, .bool false, .int .i64 0] 236) = x3 at hb1 GA GB ⊢
     generalize hg : (x2).heap.size = gA at GA LA NBA ⊢
     clear hg
     refine hK.out _ _ ⟨hHeld.1.new hb1, hHeld.2.1.new hb1, below_trans hHeld.2.2 hb1 (Nat.le_refl _)⟩ (fun hHeld' => ?_)
     clear hK K hHeld hb1; have hHeld := hHeld'; clear hHeld'
     try simp only [ptl]
     refine rd1 (i := 3) (o := ⟨some 10, _, _, _, _, _⟩) rfl (fun K hK => ?_)
     go_simp
     refine Calls.mono (impl_scopeOf q _) ?_
     rintro e x4 ⟨rfl, hb1⟩
     replace GB := GB.new hb1
     replace GA := GA.new hb1
     refine hK.out _ _ ⟨hHeld.1.new hb1, hHeld.2.1.new hb1, below_trans hHeld.2.2 hb1 (Nat.le_refl _)⟩ (fun hHeld' => ?_)
     clear hK K hHeld hb1; have hHeld := hHeld'; clear hHeld'
     try simp only [ptl]
     refine rd1 (i := 6) (o := ⟨none, _, _, _, _, _⟩) rfl (fun K hK => ?_)
     rw [if_pos (by rfl)]
     refine wp_store_row 236 _ _ rfl gA #[.bool (p.f0 != 0), .int .i64 p.f0, .bool (p.f1 != -1), .int .i64 p.f1] rfl rfl 236 _ GA (by kernel_rfl) (by kernel_rfl) (by kernel_rfl) ?_
     replace GB := box_far (cs := #[.bool (p.f0 != 0), .int .i64 p.f0, .bool (p.f1 != -1), .int .i64 p.f1]) (g := gA) GB (by omega)
     replace GA := box_row (cs := #[.bool (p.f0 != 0), .int .i64 p.f0, .bool (p.f1 != -1), .int .i64 p.f1]) GA
     have hc1 := chg_row x4 gA #[.bool (p.f0 != 0), .int .i64 p.f0, .bool (p.f1 != -1), .int .i64 p.f1]
     have hHeld2 : BoxAt (World.setRow x4 gA #[.bool (p.f0 != 0), .int .i64 p.f0, .bool (p.f1 != -1), .int .i64 p.f1]) w.heap.size 104 #[.int .i64 p.f0, .int .i64 p.f1] ∧ BoxAt (World.setRow x4 gA #[.bool (p.f0 != 0), .int .i64 p.f0, .bool (p.f1 != -1), .int .i64 p.f1]) (w.heap.size + 1) 104 #[.int .i64 q.f0, .int .i64 q.f1] ∧ Below w.heap.size w (World.setRow x4 gA #[.bool (p.f0 != 0), .int .i64 p.f0, .bool (p.f1 != -1), .int .i64 p.f1]) := ⟨hHeld.1.chg hc1 (by omega), hHeld.2.1.chg hc1 (by omega), below_setRow hHeld.2.2 (by omega) _⟩
     clear hc1
     generalize World.setRow x4 gA #[.bool (p.f0 != 0), .int .i64 p.f0, .bool (p.f1 != -1), .int .i64 p.f1] = x5 at hHeld2 GB GA ⊢
     refine hK.out _ _ hHeld2 (fun hHeld' => ?_)
     clear hHeld2
     clear hK K hHeld; have hHeld := hHeld'; clear hHeld'
     try simp only [ptl]
     refine rd1 (i := 7) (o := ⟨none, _, _, _, _, _⟩) rfl (fun K hK => ?_)
     rw [if_pos (by rfl)]
     refine wp_store_row 236 _ _ rfl gB #[.bool (q.f0 != 0), .int .i64 q.f0, .bool (q.f1 != -1), .int .i64 q.f1] rfl rfl 236 _ GB (by kernel_rfl) (by kernel_rfl) (by kernel_rfl) ?_
     replace GB := box_row (cs := #[.bool (q.f0 != 0), .int .i64 q.f0, .bool (q.f1 != -1), .int .i64 q.f1]) GB
     replace GA := box_far (cs := #[.bool (q.f0 != 0), .int .i64 q.f0, .bool (q.f1 != -1), .int .i64 q.f1]) (g := gB) GA (by omega)
     have hc1 := chg_row x5 gB #[.bool (q.f0 != 0), .int .i64 q.f0, .bool (q.f1 != -1), .int .i64 q.f1]
     have hHeld2 : BoxAt (World.setRow x5 gB #[.bool (q.f0 != 0), .int .i64 q.f0, .bool (q.f1 != -1), .int .i64 q.f1]) w.heap.size 104 #[.int .i64 p.f0, .int .i64 p.f1] ∧ BoxAt (World.setRow x5 gB #[.bool (q.f0 != 0), .int .i64 q.f0, .bool (q.f1 != -1), .int .i64 q.f1]) (w.heap.size + 1) 104 #[.int .i64 q.f0, .int .i64 q.f1] ∧ Below w.heap.size w (World.setRow x5 gB #[.bool (q.f0 != 0), .int .i64 q.f0, .bool (q.f1 != -1), .int .i64 q.f1]) := ⟨hHeld.1.chg hc1 (by omega), hHeld.2.1.chg hc1 (by omega), below_setRow hHeld.2.2 (by omega) _⟩
     clear hc1
     generalize World.setRow x5 gB #[.bool (q.f0 != 0), .int .i64 q.f0, .bool (q.f1 != -1), .int .i64 q.f1] = x6 at hHeld2 GB GA ⊢
     refine hK.out _ _ hHeld2 (fun hHeld' => ?_)
     clear hHeld2
     clear hK K hHeld; have hHeld := hHeld'; clear hHeld'
     try simp only [ptl]
     refine wpAnyH_done (by kernel_rfl) ?_ _
     go_wp2_with fail
     go_meet
     exact ⟨gA, gB, rfl, rfl, GA, GB, hHeld.1, hHeld.2.1, by omega, LA, LB, hHeld.2.2⟩
    exact AllReadyH.nil
   exact AllReadyH.nil
  refine AllReadyH.cons (o := ⟨some 5, _, _, _, _, _⟩) rfl (fun K hK => ?_) ?_
  ·
   go_simp
   have GA := box_new (x0) 236 #[.bool false, .int .i64 0, .bool false, .int .i64 0]
   have hb1 := (Below.refl (x0).heap.size (x0)).alloc (Nat.le_refl _) (.cells #[.bool false, .int .i64 0, .bool false, .int .i64 0] 236)
   have LA : w.heap.size + 2 ≤ (x0).heap.size := by have := (hHeld.1).lt; have := (hHeld.2.1).lt; have := (hHeld.2.2).size; omega
   generalize (x0).alloc (.cells #[.bool false, .int .i64 0, .bool false, .int .i64 0] 236) = x1 at hb1 GA  ⊢
   generalize hg : (x0).heap.size = gA at GA LA  ⊢
   clear hg
   refine hK.out _ _ ⟨hHeld.1.new hb1, hHeld.2.1.new hb1, below_trans hHeld.2.2 hb1 (Nat.le_refl _)⟩ (fun hHeld' => ?_)
   clear hK K hHeld hb1; have hHeld := hHeld'; clear hHeld'
   try simp only [ptl]
   refine wpAnyH_ready (rs := [1, 5]) (by kernel_rfl) (by simp) ?_
   refine AllReadyH.cons (o := ⟨some 8, _, _, _, _, _⟩) rfl (fun K hK => ?_) ?_
   ·
    go_simp
    refine Calls.mono (impl_scopeOf p _) ?_
    rintro e x2 ⟨rfl, hb1⟩
    replace GA := GA.new hb1
    refine hK.out _ _ ⟨hHeld.1.new hb1, hHeld.2.1.new hb1, below_trans hHeld.2.2 hb1 (Nat.le_refl _)⟩ (fun hHeld' => ?_)
    clear hK K hHeld hb1; have hHeld := hHeld'; clear hHeld'
    try simp only [ptl]
    refine wpAnyH_ready (rs := [3, 5]) (by kernel_rfl) (by simp) ?_
    refine AllReadyH.cons (o := ⟨some 10, _, _, _, _, _⟩) rfl (fun K hK => ?_) ?_
    ·
     go_simp
     refine Calls.mono (impl_scopeOf q _) ?_
     rintro e x3 ⟨rfl, hb1⟩
     replace GA := GA.new hb1
     refine hK.out _ _ ⟨hHeld.1.new hb1, hHeld.2.1.new hb1, below_trans hHeld.2.2 hb1 (Nat.le_refl _)⟩ (fun hHeld' => ?_)
     clear hK K hHeld hb1; have hHeld := hHeld'; clear hHeld'
     try simp only [ptl]
     refine rd1 (i := 5) (o := ⟨some 6, _, _, _, _, _⟩) rfl (fun K hK => ?_)
     go_simp
     have GB := box_new (x3) 236 #[.bool false, .int .i64 0, .bool false, .int .i64 0]
     have hb1 := (Below.refl (x3).heap.size (x3)).alloc (Nat.le_refl _) (.cells #[.bool false, .int .i64 0, .bool false, .int .i64 0] 236)
     have LB : w.heap.size + 2 ≤ (x3).heap.size := by have := (hHeld.1).lt; have := (hHeld.2.1).lt; have := (hHeld.2.2).size; omega
     have NAB : gA < (x3).heap.size := GA.lt
     replace GA := GA.new hb1
     generalize (x3).alloc (.cells #[.bool false, .int .i64 0, .bool false, .int .i64 0] 236) = x4 at hb1 GB GA ⊢
     generalize hg : (x3).heap.size = gB at GB LB NAB ⊢
     clear hg
     refine hK.out _ _ ⟨hHeld.1.new hb1, hHeld.2.1.new hb1, below_trans hHeld.2.2 hb1 (Nat.le_refl _)⟩ (fun hHeld' => ?_)
     clear hK K hHeld hb1; have hHeld := hHeld'; clear hHeld'
     try simp only [ptl]
     refine rd1 (i := 6) (o := ⟨none, _, _, _, _, _⟩) rfl (fun K hK => ?_)
     rw [if_pos (by rfl)]
     refine wp_store_row 236 _ _ rfl gA #[.bool (p.f0 != 0), .int .i64 p.f0, .bool (p.f1 != -1), .int .i64 p.f1] rfl rfl 236 _ GA (by kernel_rfl) (by kernel_rfl) (by kernel_rfl) ?_
     replace GA := box_row (cs := #[.bool (p.f0 != 0), .int .i64 p.f0, .bool (p.f1 != -1), .int .i64 p.f1]) GA
     replace GB := box_far (cs := #[.bool (p.f0 != 0), .int .i64 p.f0, .bool (p.f1 != -1), .int .i64 p.f1]) (g := gA) GB (by omega)
     have hc1 := chg_row x4 gA #[.bool (p.f0 != 0), .int .i64 p.f0, .bool (p.f1 != -1), .int .i64 p.f1]
     have hHeld2 : BoxAt (World.setRow x4 gA #[.bool (p.f0 != 0), .int .i64 p.f0, .bool (p.f1 != -1), .int .i64 p.f1]) w.heap.size 104 #[.int .i64 p.f0, .int .i64 p.f1] ∧ BoxAt (World.setRow x4 gA #[.bool (p.f0 != 0), .int .i64 p.f0, .bool (p.f1 != -1), .int .i64 p.f1]) (w.heap.size + 1) 104 #[.int .i64 q.f0, .int .i64 q.f1] ∧ Below w.heap.size w (World.setRow x4 gA #[.bool (p.f0 != 0), .int .i64 p.f0, .bool (p.f1 != -1), .int .i64 p.f1]) := ⟨hHeld.1.chg hc1 (by omega), hHeld.2.1.chg hc1 (by omega), below_setRow hHeld.2.2 (by omega) _⟩
     clear hc1
     generalize World.setRow x4 gA #[.bool (p.f0 != 0), .int .i64 p.f0, .bool (p.f1 != -1), .int .i64 p.f1] = x5 at hHeld2 GA GB ⊢
     refine hK.out _ _ hHeld2 (fun hHeld' => ?_)
     clear hHeld2
     clear hK K hHeld; have hHeld := hHeld'; clear hHeld'
     try simp only [ptl]
     refine rd1 (i := 7) (o := ⟨none, _, _, _, _, _⟩) rfl (fun K hK => ?_)
     rw [if_pos (by rfl)]
     refine wp_store_row 236 _ _ rfl gB #[.bool (q.f0 != 0), .int .i64 q.f0, .bool (q.f1 != -1), .int .i64 q.f1] rfl rfl 236 _ GB (by kernel_rfl) (by kernel_rfl) (by kernel_rfl) ?_
     replace GA := box_far (cs := #[.bool (q.f0 != 0), .int .i64 q.f0, .bool (q.f1 != -1), .int .i64 q.f1]) (g := gB) GA (by omega)
     replace GB := box_row (cs := #[.bool (q.f0 != 0), .int .i64 q.f0, .bool (q.f1 != -1), .int .i64 q.f1]) GB
     have hc1 := chg_row x5 gB #[.bool (q.f0 != 0), .int .i64 q.f0, .bool (q.f1 != -1), .int .i64 q.f1]
     have hHeld2 : BoxAt (World.setRow x5 gB #[.bool (q.f0 != 0), .int .i64 q.f0, .bool (q.f1 != -1), .int .i64 q.f1]) w.heap.size 104 #[.int .i64 p.f0, .int .i64 p.f1] ∧ BoxAt (World.setRow x5 gB #[.bool (q.f0 != 0), .int .i64 q.f0, .bool (q.f1 != -1), .int .i64 q.f1]) (w.heap.size + 1) 104 #[.int .i64 q.f0, .int .i64 q.f1] ∧ Below w.heap.size w (World.setRow x5 gB #[.bool (q.f0 != 0), .int .i64 q.f0, .bool (q.f1 != -1), .int .i64 q.f1]) := ⟨hHeld.1.chg hc1 (by omega), hHeld.2.1.chg hc1 (by omega), below_setRow hHeld.2.2 (by omega) _⟩
     clear hc1
     generalize World.setRow x5 gB #[.bool (q.f0 != 0), .int .i64 q.f0, .bool (q.f1 != -1), .int .i64 q.f1] = x6 at hHeld2 GA GB ⊢
     refine hK.out _ _ hHeld2 (fun hHeld' => ?_)
     clear hHeld2
     clear hK K hHeld; have hHeld := hHeld'; clear hHeld'
     try simp only [ptl]
     refine wpAnyH_done (by kernel_rfl) ?_ _
     go_wp2_with fail
     go_meet
     exact ⟨gA, gB, rfl, rfl, GA, GB, hHeld.1, hHeld.2.1, by omega, LA, LB, hHeld.2.2⟩
    refine AllReadyH.cons (o := ⟨some 6, _, _, _, _, _⟩) rfl (fun K hK => ?_) ?_
    ·
     go_simp
     have GB := box_new (x2) 236 #[.bool false, .int .i64 0, .bool false, .int .i64 0]
     have hb1 := (Below.refl (x2).heap.size (x2)).alloc (Nat.le_refl _) (.cells #[.bool false, .int .i64 0, .bool false, .int .i64 0] 236)
     have LB : w.heap.size + 2 ≤ (x2).heap.size := by have := (hHeld.1).lt; have := (hHeld.2.1).lt; have := (hHeld.2.2).size; omega
     have NAB : gA < (x2).heap.size := GA.lt
     replace GA := GA.new hb1
     generalize (x2).alloc (.cells #[.bool false, .int .i64 0, .bool false, .int .i64 0] 236) = x3 at hb1 GB GA ⊢
     generalize hg : (x2).heap.size = gB at GB LB NAB ⊢
     clear hg
     refine hK.out _ _ ⟨hHeld.1.new hb1, hHeld.2.1.new hb1, below_trans hHeld.2.2 hb1 (Nat.le_refl _)⟩ (fun hHeld' => ?_)
     clear hK K hHeld hb1; have hHeld := hHeld'; clear hHeld'
     try simp only [ptl]
     refine rd1 (i := 3) (o := ⟨some 10, _, _, _, _, _⟩) rfl (fun K hK => ?_)
     go_simp
     refine Calls.mono (impl_scopeOf q _) ?_
     rintro e x4 ⟨rfl, hb1⟩
     replace GA := GA.new hb1
     replace GB := GB.new hb1
     refine hK.out _ _ ⟨hHeld.1.new hb1, hHeld.2.1.new hb1, below_trans hHeld.2.2 hb1 (Nat.le_refl _)⟩ (fun hHeld' => ?_)
     clear hK K hHeld hb1; have hHeld := hHeld'; clear hHeld'
     try simp only [ptl]
     refine rd1 (i := 6) (o := ⟨none, _, _, _, _, _⟩) rfl (fun K hK => ?_)
     rw [if_pos (by rfl)]
     refine wp_store_row 236 _ _ rfl gA #[.bool (p.f0 != 0), .int .i64 p.f0, .bool (p.f1 != -1), .int .i64 p.f1] rfl rfl 236 _ GA (by kernel_rfl) (by kernel_rfl) (by kernel_rfl) ?_
     replace GA := box_row (cs := #[.bool (p.f0 != 0), .int .i64 p.f0, .bool (p.f1 != -1), .int .i64 p.f1]) GA
     replace GB := box_far (cs := #[.bool (p.f0 != 0), .int .i64 p.f0, .bool (p.f1 != -1), .int .i64 p.f1]) (g := gA) GB (by omega)
     have hc1 := chg_row x4 gA #[.bool (p.f0 != 0), .int .i64 p.f0, .bool (p.f1 != -1), .int .i64 p.f1]
     have hHeld2 : BoxAt (World.setRow x4 gA #[.bool (p.f0 != 0), .int .i64 p.f0, .bool (p.f1 != -1), .int .i64 p.f1]) w.heap.size 104 #[.int .i64 p.f0, .int .i64 p.f1] ∧ BoxAt (World.setRow x4 gA #[.bool (p.f0 != 0), .int .i64 p.f0, .bool (p.f1 != -1), .int .i64 p.f1]) (w.heap.size + 1) 104 #[.int .i64 q.f0, .int .i64 q.f1] ∧ Below w.heap.size w (World.setRow x4 gA #[.bool (p.f0 != 0), .int .i64 p.f0, .bool (p.f1 != -1), .int .i64 p.f1]) := ⟨hHeld.1.chg hc1 (by omega), hHeld.2.1.chg hc1 (by omega), below_setRow hHeld.2.2 (by omega) _⟩
     clear hc1
     generalize World.setRow x4 gA #[.bool (p.f0 != 0), .int .i64 p.f0, .bool (p.f1 != -1), .int .i64 p.f1] = x5 at hHeld2 GA GB ⊢
     refine hK.out _ _ hHeld2 (fun hHeld' => ?_)
     clear hHeld2
     clear hK K hHeld; have hHeld := hHeld'; clear hHeld'
     try simp only [ptl]
     refine rd1 (i := 7) (o := ⟨none, _, _, _, _, _⟩) rfl (fun K hK => ?_)
     rw [if_pos (by rfl)]
     refine wp_store_row 236 _ _ rfl gB #[.bool (q.f0 != 0), .int .i64 q.f0, .bool (q.f1 != -1), .int .i64 q.f1] rfl rfl 236 _ GB (by kernel_rfl) (by kernel_rfl) (by kernel_rfl) ?_
     replace GA := box_far (cs := #[.bool (q.f0 != 0), .int .i64 q.f0, .bool (q.f1 != -1), .int .i64 q.f1]) (g := gB) GA (by omega)
     replace GB := box_row (cs := #[.bool (q.f0 != 0), .int .i64 q.f0, .bool (q.f1 != -1), .int .i64 q.f1]) GB
     have hc1 := chg_row x5 gB #[.bool (q.f0 != 0), .int .i64 q.f0, .bool (q.f1 != -1), .int .i64 q.f1]
     have hHeld2 : BoxAt (World.setRow x5 gB #[.bool (q.f0 != 0), .int .i64 q.f0, .bool (q.f1 != -1), .int .i64 q.f1]) w.heap.size 104 #[.int .i64 p.f0, .int .i64 p.f1] ∧ BoxAt (World.setRow x5 gB #[.bool (q.f0 != 0), .int .i64 q.f0, .bool (q.f1 != -1), .int .i64 q.f1]) (w.heap.size + 1) 104 #[.int .i64 q.f0, .int .i64 q.f1] ∧ Below w.heap.size w (World.setRow x5 gB #[.bool (q.f0 != 0), .int .i64 q.f0, .bool (q.f1 != -1), .int .i64 q.f1]) := ⟨hHeld.1.chg hc1 (by omega), hHeld.2.1.chg hc1 (by omega), below_setRow hHeld.2.2 (by omega) _⟩
     clear hc1
     generalize World.setRow x5 gB #[.bool (q.f0 != 0), .int .i64 q.f0, .bool (q.f1 != -1), .int .i64 q.f1] = x6 at hHeld2 GA GB ⊢
     refine hK.out _ _ hHeld2 (fun hHeld' => ?_)
     clear hHeld2
     clear hK K hHeld; have hHeld := hHeld'; clear hHeld'
     try simp only [ptl]
     refine wpAnyH_done (by kernel_rfl) ?_ _
     go_wp2_with fail
     go_meet
     exact ⟨gA, gB, rfl, rfl, GA, GB, hHeld.1, hHeld.2.1, by omega, LA, LB, hHeld.2.2⟩
    exact AllReadyH.nil
   refine AllReadyH.cons (o := ⟨some 6, _, _, _, _, _⟩) rfl (fun K hK => ?_) ?_
   ·
    go_simp
    have GB := box_new (x1) 236 #[.bool false, .int .i64 0, .bool false, .int .i64 0]
    have hb1 := (Below.refl (x1).heap.size (x1)).alloc (Nat.le_refl _) (.cells #[.bool false, .int .i64 0, .bool false, .int .i64 0] 236)
    have LB : w.heap.size + 2 ≤ (x1).heap.size := by have := (hHeld.1).lt; have := (hHeld.2.1).lt; have := (hHeld.2.2).size; omega
    have NAB : gA < (x1).heap.size := GA.lt
    replace GA := GA.new hb1
    generalize (x1).alloc (.cells #[.bool false, .int .i64 0, .bool false, .int .i64 0] 236) = x2 at hb1 GB GA ⊢
    generalize hg : (x1).heap.size = gB at GB LB NAB ⊢
    clear hg
    refine hK.out _ _ ⟨hHeld.1.new hb1, hHeld.2.1.new hb1, below_trans hHeld.2.2 hb1 (Nat.le_refl _)⟩ (fun hHeld' => ?_)
    clear hK K hHeld hb1; have hHeld := hHeld'; clear hHeld'
    try simp only [ptl]
    refine rd1 (i := 1) (o := ⟨some 8, _, _, _, _, _⟩) rfl (fun K hK => ?_)
    go_simp
    refine Calls.mono (impl_scopeOf p _) ?_
    rintro e x3 ⟨rfl, hb1⟩
    replace GA := GA.new hb1
    replace GB := GB.new hb1
    refine hK.out _ _ ⟨hHeld.1.new hb1, hHeld.2.1.new hb1, below_trans hHeld.2.2 hb1 (Nat.le_refl _)⟩ (fun hHeld' => ?_)
    clear hK K hHeld hb1; have hHeld := hHeld'; clear hHeld'
    try simp only [ptl]
    refine rd1 (i := 3) (o := ⟨some 10, _, _, _, _, _⟩) rfl (fun K hK => ?_)
    go_simp
    refine Calls.mono (impl_scopeOf q _) ?_
    rintro e x4 ⟨rfl, hb1⟩
    replace GA := GA.new hb1
    replace GB := GB.new hb1
    refine hK.out _ _ ⟨hHeld.1.new hb1, hHeld.2.1.new hb1, below_trans hHeld.2.2 hb1 (Nat.le_refl _)⟩ (fun hHeld' => ?_)
    clear hK K hHeld hb1; have hHeld := hHeld'; clear hHeld'
    try simp only [ptl]
    refine rd1 (i := 6) (o := ⟨none, _, _, _, _, _⟩) rfl (fun K hK => ?_)
    rw [if_pos (by rfl)]
    refine wp_store_row 236 _ _ rfl gA #[.bool (p.f0 != 0), .int .i64 p.f0, .bool (p.f1 != -1), .int .i64 p.f1] rfl rfl 236 _ GA (by kernel_rfl) (by kernel_rfl) (by kernel_rfl) ?_
    replace GA := box_row (cs := #[.bool (p.f0 != 0), .int .i64 p.f0, .bool (p.f1 != -1), .int .i64 p.f1]) GA
    replace GB := box_far (cs := #[.bool (p.f0 != 0), .int .i64 p.f0, .bool (p.f1 != -1), .int .i64 p.f1]) (g := gA) GB (by omega)
    have hc1 := chg_row x4 gA #[.bool (p.f0 != 0), .int .i64 p.f0, .bool (p.f1 != -1), .int .i64 p.f1]
    have hHeld2 : BoxAt (World.setRow x4 gA #[.bool (p.f0 != 0), .int .i64 p.f0, .bool (p.f1 != -1), .int .i64 p.f1]) w.heap.size 104 #[.int .i64 p.f0, .int .i64 p.f1] ∧ BoxAt (World.setRow x4 gA #[.bool (p.f0 != 0), .int .i64 p.f0, .bool (p.f1 != -1), .int .i64 p.f1]) (w.heap.size + 1) 104 #[.int .i64 q.f0, .int .i64 q.f1] ∧ Below w.heap.size w (World.setRow x4 gA #[.bool (p.f0 != 0), .int .i64 p.f0, .bool (p.f1 != -1), .int .i64 p.f1]) := ⟨hHeld.1.chg hc1 (by omega), hHeld.2.1.chg hc1 (by omega), below_setRow hHeld.2.2 (by omega) _⟩
    clear hc1
    generalize World.setRow x4 gA #[.bool (p.f0 != 0), .int .i64 p.f0, .bool (p.f1 != -1), .int .i64 p.f1] = x5 at hHeld2 GA GB ⊢
    refine hK.out _ _ hHeld2 (fun hHeld' => ?_)
    clear hHeld2
    clear hK K hHeld; have hHeld := hHeld'; clear hHeld'
    try simp only [ptl]
    refine rd1 (i := 7) (o := ⟨none, _, _, _, _, _⟩) rfl (fun K hK => ?_)
    rw [if_pos (by rfl)]
    refine wp_store_row 236 _ _ rfl gB #[.bool (q.f0 != 0), .int .i64 q.f0, .bool (q.f1 != -1), .int .i64 q.f1] rfl rfl 236 _ GB (by kernel_rfl) (by kernel_rfl) (by kernel_rfl) ?_
    replace GA := box_far (cs := #[.bool (q.f0 != 0), .int .i64 q.f0, .bool (q.f1 != -1), .int .i64 q.f1]) (g := gB) GA (by omega)
    replace GB := box_row (cs := #[.bool (q.f0 != 0), .int .i64 q.f0, .bool (q.f1 != -1), .int .i64 q.f1]) GB
    have hc1 := chg_row x5 gB #[.bool (q.f0 != 0), .int .i64 q.f0, .bool (q.f1 != -1), .int .i64 q.f1]
    have hHeld2 : BoxAt (World.setRow x5 gB #[.bool (q.f0 != 0), .int .i64 q.f0, .bool (q.f1 != -1), .int .i64 q.f1]) w.heap.size 104 #[.int .i64 p.f0, .int .i64 p.f1] ∧ BoxAt (World.setRow x5 gB #[.bool (q.f0 != 0), .int .i64 q.f0, .bool (q.f1 != -1), .int .i64 q.f1]) (w.heap.size + 1) 104 #[.int .i64 q.f0, .int .i64 q.f1] ∧ Below w.heap.size w (World.setRow x5 gB #[.bool (q.f0 != 0), .int .i64 q.f0, .bool (q.f1 != -1), .int .i64 q.f1]) := ⟨hHeld.1.chg hc1 (by omega), hHeld.2.1.chg hc1 (by omega), below_setRow hHeld.2.2 (by omega) _⟩
    clear hc1
    generalize World.setRow x5 gB #[.bool (q.f0 != 0), .int .i64 q.f0, .bool (q.f1 != -1), .int .i64 q.f1] = x6 at hHeld2 GA GB ⊢
    refine hK.out _ _ hHeld2 (fun hHeld' => ?_)
    clear hHeld2
    clear hK K hHeld; have hHeld := hHeld'; clear hHeld'
    try simp only [ptl]
    refine wpAnyH_done (by kernel_rfl) ?_ _
    go_wp2_with fail
    go_meet
    exact ⟨gA, gB, rfl, rfl, GA, GB, hHeld.1, hHeld.2.1, by omega, LA, LB, hHeld.2.2⟩
   exact AllReadyH.nil
  refine AllReadyH.cons (o := ⟨some 6, _, _, _, _, _⟩) rfl (fun K hK => ?_) ?_
  ·
   go_simp
   have GB := box_new (x0) 236 #[.bool false, .int .i64 0, .bool false, .int .i64 0]
   have hb1 := (Below.refl (x0).heap.size (x0)).alloc (Nat.le_refl _) (.cells #[.bool false, .int .i64 0, .bool false, .int .i64 0] 236)
   have LB : w.heap.size + 2 ≤ (x0).heap.size := by have := (hHeld.1).lt; have := (hHeld.2.1).lt; have := (hHeld.2.2).size; omega
   generalize (x0).alloc (.cells #[.bool false, .int .i64 0, .bool false, .int .i64 0] 236) = x1 at hb1 GB  ⊢
   generalize hg : (x0).heap.size = gB at GB LB  ⊢
   clear hg
   refine hK.out _ _ ⟨hHeld.1.new hb1, hHeld.2.1.new hb1, below_trans hHeld.2.2 hb1 (Nat.le_refl _)⟩ (fun hHeld' => ?_)
   clear hK K hHeld hb1; have hHeld := hHeld'; clear hHeld'
   try simp only [ptl]
   refine wpAnyH_ready (rs := [1, 4]) (by kernel_rfl) (by simp) ?_
   refine AllReadyH.cons (o := ⟨some 8, _, _, _, _, _⟩) rfl (fun K hK => ?_) ?_
   ·
    go_simp
    refine Calls.mono (impl_scopeOf p _) ?_
    rintro e x2 ⟨rfl, hb1⟩
    replace GB := GB.new hb1
    refine hK.out _ _ ⟨hHeld.1.new hb1, hHeld.2.1.new hb1, below_trans hHeld.2.2 hb1 (Nat.le_refl _)⟩ (fun hHeld' => ?_)
    clear hK K hHeld hb1; have hHeld := hHeld'; clear hHeld'
    try simp only [ptl]
    refine wpAnyH_ready (rs := [3, 4]) (by kernel_rfl) (by simp) ?_
    refine AllReadyH.cons (o := ⟨some 10, _, _, _, _, _⟩) rfl (fun K hK => ?_) ?_
    ·
     go_simp
     refine Calls.mono (impl_scopeOf q _) ?_
     rintro e x3 ⟨rfl, hb1⟩
     replace GB := GB.new hb1
     refine hK.out _ _ ⟨hHeld.1.new hb1, hHeld.2.1.new hb1, below_trans hHeld.2.2 hb1 (Nat.le_refl _)⟩ (fun hHeld' => ?_)
     clear hK K hHeld hb1; have hHeld := hHeld'; clear hHeld'
     try simp only [ptl]
     refine rd1 (i := 4) (o := ⟨some 5, _, _, _, _, _⟩) rfl (fun K hK => ?_)
     go_simp
     have GA := box_new (x3) 236 #[.bool false, .int .i64 0, .bool false, .int .i64 0]
     have hb1 := (Below.refl (x3).heap.size (x3)).alloc (Nat.le_refl _) (.cells #[.bool false, .int .i64 0, .bool false, .int .i64 0] 236)
     have LA : w.heap.size + 2 ≤ (x3).heap.size := by have := (hHeld.1).lt; have := (hHeld.2.1).lt; have := (hHeld.2.2).size; omega
     have NBA : gB < (x3).heap.size := GB.lt
     replace GB := GB.new hb1
     generalize (x3).alloc (.cells #[.bool false, .int .i64 0, .bool false, .int .i64 0] 236) = x4 at hb1 GA GB ⊢
     generalize hg : (x3).heap.size = gA at GA LA NBA ⊢
     clear hg
     refine hK.out _ _ ⟨hHeld.1.new hb1, hHeld.2.1.new hb1, below_trans hHeld.2.2 hb1 (Nat.le_refl _)⟩ (fun hHeld' => ?_)
     clear hK K hHeld hb1; have hHeld := hHeld'; clear hHeld'
     try simp only [ptl]
     refine rd1 (i := 6) (o := ⟨none, _, _, _, _, _⟩) rfl (fun K hK => ?_)
     rw [if_pos (by rfl)]
     refine wp_store_row 236 _ _ rfl gA #[.bool (p.f0 != 0), .int .i64 p.f0, .bool (p.f1 != -1), .int .i64 p.f1] rfl rfl 236 _ GA (by kernel_rfl) (by kernel_rfl) (by kernel_rfl) ?_
     replace GB := box_far (cs := #[.bool (p.f0 != 0), .int .i64 p.f0, .bool (p.f1 != -1), .int .i64 p.f1]) (g := gA) GB (by omega)
     replace GA := box_row (cs := #[.bool (p.f0 != 0), .int .i64 p.f0, .bool (p.f1 != -1), .int .i64 p.f1]) GA
     have hc1 := chg_row x4 gA #[.bool (p.f0 != 0), .int .i64 p.f0, .bool (p.f1 != -1), .int .i64 p.f1]
     have hHeld2 : BoxAt (World.setRow x4 gA #[.bool (p.f0 != 0), .int .i64 p.f0, .bool (p.f1 != -1), .int .i64 p.f1]) w.heap.size 104 #[.int .i64 p.f0, .int .i64 p.f1] ∧ BoxAt (World.setRow x4 gA #[.bool (p.f0 != 0), .int .i64 p.f0, .bool (p.f1 != -1), .int .i64 p.f1]) (w.heap.size + 1) 104 #[.int .i64 q.f0, .int .i64 q.f1] ∧ Below w.heap.size w (World.setRow x4 gA #[.bool (p.f0 != 0), .int .i64 p.f0, .bool (p.f1 != -1), .int .i64 p.f1]) := ⟨hHeld.1.chg hc1 (by omega), hHeld.2.1.chg hc1 (by omega), below_setRow hHeld.2.2 (by omega) _⟩
     clear hc1
     generalize World.setRow x4 gA #[.bool (p.f0 != 0), .int .i64 p.f0, .bool (p.f1 != -1), .int .i64 p.f1] = x5 at hHeld2 GB GA ⊢
     refine hK.out _ _ hHeld2 (fun hHeld' => ?_)
     clear hHeld2
     clear hK K hHeld; have hHeld := hHeld'; clear hHeld'
     try simp only [ptl]
     refine rd1 (i := 7) (o := ⟨none, _, _, _, _, _⟩) rfl (fun K hK => ?_)
     rw [if_pos (by rfl)]
     refine wp_store_row 236 _ _ rfl gB #[.bool (q.f0 != 0), .int .i64 q.f0, .bool (q.f1 != -1), .int .i64 q.f1] rfl rfl 236 _ GB (by kernel_rfl) (by kernel_rfl) (by kernel_rfl) ?_
     replace GB := box_row (cs := #[.bool (q.f0 != 0), .int .i64 q.f0, .bool (q.f1 != -1), .int .i64 q.f1]) GB
     replace GA := box_far (cs := #[.bool (q.f0 != 0), .int .i64 q.f0, .bool (q.f1 != -1), .int .i64 q.f1]) (g := gB) GA (by omega)
     have hc1 := chg_row x5 gB #[.bool (q.f0 != 0), .int .i64 q.f0, .bool (q.f1 != -1), .int .i64 q.f1]
     have hHeld2 : BoxAt (World.setRow x5 gB #[.bool (q.f0 != 0), .int .i64 q.f0, .bool (q.f1 != -1), .int .i64 q.f1]) w.heap.size 104 #[.int .i64 p.f0, .int .i64 p.f1] ∧ BoxAt (World.setRow x5 gB #[.bool (q.f0 != 0), .int .i64 q.f0, .bool (q.f1 != -1), .int .i64 q.f1]) (w.heap.size + 1) 104 #[.int .i64 q.f0, .int .i64 q.f1] ∧ Below w.heap.size w (World.setRow x5 gB #[.bool (q.f0 != 0), .int .i64 q.f0, .bool (q.f1 != -1), .int .i64 q.f1]) := ⟨hHeld.1.chg hc1 (by omega), hHeld.2.1.chg hc1 (by omega), below_setRow hHeld.2.2 (by omega) _⟩
     clear hc1
     generalize World.setRow x5 gB #[.bool (q.f0 != 0), .int .i64 q.f0, .bool (q.f1 != -1), .int .i64 q.f1] = x6 at hHeld2 GB GA ⊢
     refine hK.out _ _ hHeld2 (fun hHeld' => ?_)
     clear hHeld2
     clear hK K hHeld; have hHeld := hHeld'; clear hHeld'
     try simp only [ptl]
     refine wpAnyH_done (by kernel_rfl) ?_ _
     go_wp2_with fail
     go_meet
     exact ⟨gA, gB, rfl, rfl, GA, GB, hHeld.1, hHeld.2.1, by omega, LA, LB, hHeld.2.2⟩
    refine AllReadyH.cons (o := ⟨some 5, _, _, _, _, _⟩) rfl (fun K hK => ?_) ?_
    ·
     go_simp
     have GA := box_new (x2) 236 #[.bool false, .int .i64 0, .bool false, .int .i64 0]
     have hb1 := (Below.refl (x2).heap.size (x2)).alloc (Nat.le_refl _) (.cells #[.bool false, .int .i64 0, .bool false, .int .i64 0] 236)
     have LA : w.heap.size + 2 ≤ (x2).heap.size := by have := (hHeld.1).lt; have := (hHeld.2.1).lt; have := (hHeld.2.2).size; omega
     have NBA : gB < (x2).heap.size := GB.lt
     replace GB := GB.new hb1
     generalize (x2).alloc (.cells #[.bool false, .int .i64 0, .bool false, .int .i64 0] 236) = x3 at hb1 GA GB ⊢
     generalize hg : (x2).heap.size = gA at GA LA NBA ⊢
     clear hg
     refine hK.out _ _ ⟨hHeld.1.new hb1, hHeld.2.1.new hb1, below_trans hHeld.2.2 hb1 (Nat.le_refl _)⟩ (fun hHeld' => ?_)
     clear hK K hHeld hb1; have hHeld := hHeld'; clear hHeld'
     try simp only [ptl]
     refine rd1 (i := 3) (o := ⟨some 10, _, _, _, _, _⟩) rfl (fun K hK => ?_)
     go_simp
     refine Calls.mono (impl_scopeOf q _) ?_
     rintro e x4 ⟨rfl, hb1⟩
     replace GB := GB.new hb1
     replace GA := GA.new hb1
     refine hK.out _ _ ⟨hHeld.1.new hb1, hHeld.2.1.new hb1, below_trans hHeld.2.2 hb1 (Nat.le_refl _)⟩ (fun hHeld' => ?_)
     clear hK K hHeld hb1; have hHeld := hHeld'; clear hHeld'
     try simp only [ptl]
     refine rd1 (i := 6) (o := ⟨none, _, _, _, _, _⟩) rfl (fun K hK => ?_)
     rw [if_pos (by rfl)]
     refine wp_store_row 236 _ _ rfl gA #[.bool (p.f0 != 0), .int .i64 p.f0, .bool (p.f1 != -1), .int .i64 p.f1] rfl rfl 236 _ GA (by kernel_rfl) (by kernel_rfl) (by kernel_rfl) ?_
     replace GB := box_far (cs := #[.bool (p.f0 != 0), .int .i64 p.f0, .bool (p.f1 != -1), .int .i64 p.f1]) (g := gA) GB (by omega)
     replace GA := box_row (cs := #[.bool (p.f0 != 0), .int .i64 p.f0, .bool (p.f1 != -1), .int .i64 p.f1]) GA
     have hc1 := chg_row x4 gA #[.bool (p.f0 != 0), .int .i64 p.f0, .bool (p.f1 != -1), .int .i64 p.f1]
     have hHeld2 : BoxAt (World.setRow x4 gA #[.bool (p.f0 != 0), .int .i64 p.f0, .bool (p.f1 != -1), .int .i64 p.f1]) w.heap.size 104 #[.int .i64 p.f0, .int .i64 p.f1] ∧ BoxAt (World.setRow x4 gA #[.bool (p.f0 != 0), .int .i64 p.f0, .bool (p.f1 != -1), .int .i64 p.f1]) (w.heap.size + 1) 104 #[.int .i64 q.f0, .int .i64 q.f1] ∧ Below w.heap.size w (World.setRow x4 gA #[.bool (p.f0 != 0), .int .i64 p.f0, .bool (p.f1 != -1), .int .i64 p.f1]) := ⟨hHeld.1.chg hc1 (by omega), hHeld.2.1.chg hc1 (by omega), below_setRow hHeld.2.2 (by omega) _⟩
     clear hc1
     generalize World.setRow x4 gA #[.bool (p.f0 != 0), .int .i64 p.f0, .bool (p.f1 != -1), .int .i64 p.f1] = x5 at hHeld2 GB GA ⊢
     refine hK.out _ _ hHeld2 (fun hHeld' => ?_)
     clear hHeld2
     clear hK K hHeld; have hHeld := hHeld'; clear hHeld'
     try simp only [ptl]
     refine rd1 (i := 7) (o := ⟨none, _, _, _, _, _⟩) rfl (fun K hK => ?_)
     rw [if_pos (by rfl)]
     refine wp_store_row 236 _ _ rfl gB #[.bool (q.f0 != 0), .int .i64 q.f0, .bool (q.f1 != -1), .int .i64 q.f1] rfl rfl 236 _ GB (by kernel_rfl) (by kernel_rfl) (by kernel_rfl) ?_
     replace GB := box_row (cs := #[.bool (q.f0 != 0), .int .i64 q.f0, .bool (q.f1 != -1), .int .i64 q.f1]) GB
     replace GA := box_far (cs := #[.bool (q.f0 != 0), .int .i64 q.f0, .bool (q.f1 != -1), .int .i64 q.f1]) (g := gB) GA (by omega)
     have hc1 := chg_row x5 gB #[.bool (q.f0 != 0), .int .i64 q.f0, .bool (q.f1 != -1), .int .i64 q.f1]
     have hHeld2 : BoxAt (World.setRow x5 gB #[.bool (q.f0 != 0), .int .i64 q.f0, .bool (q.f1 != -1), .int .i64 q.f1]) w.heap.size 104 #[.int .i64 p.f0, .int .i64 p.f1] ∧ BoxAt (World.setRow x5 gB #[.bool (q.f0 != 0), .int .i64 q.f0, .bool (q.f1 != -1), .int .i64 q.f1]) (w.heap.size + 1) 104 #[.int .i64 q.f0, .int .i64 q.f1] ∧ Below w.heap.size w (World.setRow x5 gB #[.bool (q.f0 != 0), .int .i64 q.f0, .bool (q.f1 != -1), .int .i64 q.f1]) := ⟨hHeld.1.chg hc1 (by omega), hHeld.2.1.chg hc1 (by omega), below_setRow hHeld.2.2 (by omega) _⟩
     clear hc1
     generalize World.setRow x5 gB #[.bool (q.f0 != 0), .int .i64 q.f0, .bool (q.f1 != -1), .int .i64 q.f1] = x6 at hHeld2 GB GA ⊢
     refine hK.out _ _ hHeld2 (fun hHeld' => ?_)
     clear hHeld2
     clear hK K hHeld; have hHeld := hHeld'; clear hHeld'
     try simp only [ptl]
     refine wpAnyH_done (by kernel_rfl) ?_ _
     go_wp2_with fail
     go_meet
     exact ⟨gA, gB, rfl, rfl, GA, GB, hHeld.1, hHeld.2.1, by omega, LA, LB, hHeld.2.2⟩
    exact AllReadyH.nil
   refine AllReadyH.cons (o := ⟨some 5, _, _, _, _, _⟩) rfl (fun K hK => ?_) ?_
   ·
    go_simp
    have GA := box_new (x1) 236 #[.bool false, .int .i64 0, .bool false, .int .i64 0]
    have hb1 := (Below.refl (x1).heap.size (x1)).alloc (Nat.le_refl _) (.cells #[.bool false, .int .i64 0, .bool false, .int .i64 0] 236)
    have LA : w.heap.size + 2 ≤ (x1).heap.size := by have := (hHeld.1).lt; have := (hHeld.2.1).lt; have := (hHeld.2.2).size; omega
    have NBA : gB < (x1).heap.size := GB.lt
    replace GB := GB.new hb1
    generalize (x1).alloc (.cells #[.bool false, .int .i64 0, .bool false, .int .i64 0] 236) = x2 at hb1 GA GB ⊢
    generalize hg : (x1).heap.size = gA at GA LA NBA ⊢
    clear hg
    refine hK.out _ _ ⟨hHeld.1.new hb1, hHeld.2.1.new hb1, below_trans hHeld.2.2 hb1 (Nat.le_refl _)⟩ (fun hHeld' => ?_)
    clear hK K hHeld hb1; have hHeld := hHeld'; clear hHeld'
    try simp only [ptl]
    refine rd1 (i := 1) (o := ⟨some 8, _, _, _, _, _⟩) rfl (fun K hK => ?_)
    go_simp
    refine Calls.mono (impl_scopeOf p _) ?_
    rintro e x3 ⟨rfl, hb1⟩
    replace GB := GB.new hb1
    replace GA := GA.new hb1
    refine hK.out _ _ ⟨hHeld.1.new hb1, hHeld.2.1.new hb1, below_trans hHeld.2.2 hb1 (Nat.le_refl _)⟩ (fun hHeld' => ?_)
    clear hK K hHeld hb1; have hHeld := hHeld'; clear hHeld'
    try simp only [ptl]
    refine rd1 (i := 3) (o := ⟨some 10, _, _, _, _, _⟩) rfl (fun K hK => ?_)
    go_simp
    refine Calls.mono (impl_scopeOf q _) ?_
    rintro e x4 ⟨rfl, hb1⟩
    replace GB := GB.new hb1
    replace GA := GA.new hb1
    refine hK.out _ _ ⟨hHeld.1.new hb1, hHeld.2.1.new hb1, below_trans hHeld.2.2 hb1 (Nat.le_refl _)⟩ (fun hHeld' => ?_)
    clear hK K hHeld hb1; have hHeld := hHeld'; clear hHeld'
    try simp only [ptl]
    refine rd1 (i := 6) (o := ⟨none, _, _, _, _, _⟩) rfl (fun K hK => ?_)
    rw [if_pos (by rfl)]
    refine wp_store_row 236 _ _ rfl gA #[.bool (p.f0 != 0), .int .i64 p.f0, .bool (p.f1 != -1), .int .i64 p.f1] rfl rfl 236 _ GA (by kernel_rfl) (by kernel_rfl) (by kernel_rfl) ?_
    replace GB := box_far (cs := #[.bool (p.f0 != 0), .int .i64 p.f0, .bool (p.f1 != -1), .int .i64 p.f1]) (g := gA) GB (by omega)
    replace GA := box_row (cs := #[.bool (p.f0 != 0), .int .i64 p.f0, .bool (p.f1 != -1), .int .i64 p.f1]) GA
    have hc1 := chg_row x4 gA #[.bool (p.f0 != 0), .int .i64 p.f0, .bool (p.f1 != -1), .int .i64 p.f1]
    have hHeld2 : BoxAt (World.setRow x4 gA #[.bool (p.f0 != 0), .int .i64 p.f0, .bool (p.f1 != -1), .int .i64 p.f1]) w.heap.size 104 #[.int .i64 p.f0, .int .i64 p.f1] ∧ BoxAt (World.setRow x4 gA #[.bool (p.f0 != 0), .int .i64 p.f0, .bool (p.f1 != -1), .int .i64 p.f1]) (w.heap.size + 1) 104 #[.int .i64 q.f0, .int .i64 q.f1] ∧ Below w.heap.size w (World.setRow x4 gA #[.bool (p.f0 != 0), .int .i64 p.f0, .bool (p.f1 != -1), .int .i64 p.f1]) := ⟨hHeld.1.chg hc1 (by omega), hHeld.2.1.chg hc1 (by omega), below_setRow hHeld.2.2 (by omega) _⟩
    clear hc1
    generalize World.setRow x4 gA #[.bool (p.f0 != 0), .int .i64 p.f0, .bool (p.f1 != -1), .int .i64 p.f1] = x5 at hHeld2 GB GA ⊢
    refine hK.out _ _ hHeld2 (fun hHeld' => ?_)
    clear hHeld2
    clear hK K hHeld; have hHeld := hHeld'; clear hHeld'
    try simp only [ptl]
    refine rd1 (i := 7) (o := ⟨none, _, _, _, _, _⟩) rfl (fun K hK => ?_)
    rw [if_pos (by rfl)]
    refine wp_store_row 236 _ _ rfl gB #[.bool (q.f0 != 0), .int .i64 q.f0, .bool (q.f1 != -1), .int .i64 q.f1] rfl rfl 236 _ GB (by kernel_rfl) (by kernel_rfl) (by kernel_rfl) ?_
    replace GB := box_row (cs := #[.bool (q.f0 != 0), .int .i64 q.f0, .bool (q.f1 != -1), .int .i64 q.f1]) GB
    replace GA := box_far (cs := #[.bool (q.f0 != 0), .int .i64 q.f0, .bool (q.f1 != -1), .int .i64 q.f1]) (g := gB) GA (by omega)
    have hc1 := chg_row x5 gB #[.bool (q.f0 != 0), .int .i64 q.f0, .bool (q.f1 != -1), .int .i64 q.f1]
    have hHeld2 : BoxAt (World.setRow x5 gB #[.bool (q.f0 != 0), .int .i64 q.f0, .bool (q.f1 != -1), .int .i64 q.f1]) w.heap.size 104 #[.int .i64 p.f0, .int .i64 p.f1] ∧ BoxAt (World.setRow x5 gB #[.bool (q.f0 != 0), .int .i64 q.f0, .bool (q.f1 != -1), .int .i64 q.f1]) (w.heap.size + 1) 104 #[.int .i64 q.f0, .int .i64 q.f1] ∧ Below w.heap.size w (World.setRow x5 gB #[.bool (q.f0 != 0), .int .i64 q.f0, .bool (q.f1 != -1), .int .i64 q.f1]) := ⟨hHeld.1.chg hc1 (by omega), hHeld.2.1.chg hc1 (by omega), below_setRow hHeld.2.2 (by omega) _⟩
    clear hc1
    generalize World.setRow x5 gB #[.bool (q.f0 != 0), .int .i64 q.f0, .bool (q.f1 != -1), .int .i64 q.f1] = x6 at hHeld2 GB GA ⊢
    refine hK.out _ _ hHeld2 (fun hHeld' => ?_)
    clear hHeld2
    clear hK K hHeld; have hHeld := hHeld'; clear hHeld'
    try simp only [ptl]
    refine wpAnyH_done (by kernel_rfl) ?_ _
    go_wp2_with fail
    go_meet
    exact ⟨gA, gB, rfl, rfl, GA, GB, hHeld.1, hHeld.2.1, by omega, LA, LB, hHeld.2.2⟩
   exact AllReadyH.nil
  exact AllReadyH.nil
 case rest =>
  obtain ⟨g5, g6, rfl, rfl, HS⟩ := hcut
  clear KB0 KB1 HBw
  have HS := Lib.hid HS
  obtain ⟨eb50, eb51, eb52, eb53⟩ := HS.out.b5.p4
  obtain ⟨eb60, eb61, eb62, eb63⟩ := HS.out.b6.p4
  obtain ⟨ebp0, ebp1⟩ := HS.out.bp.p2
  obtain ⟨ebq0, ebq1⟩ := HS.out.bq.p2
  cases b0
  ·
   go_wp2_with (first | (go_at_call 132; (first | (with_reducible refine Calls.mono (C0.out _) ?_) | (with_reducible refine Calls.mono (C1.out _) ?_)); rintro e w1 ⟨rfl, hb1⟩; (replace HS := Lib.hid (HS.out.new hb1)); (have eb50 := HS.out.b5.at_ (j := 0) rfl); (have eb51 := HS.out.b5.at_ (j := 1) rfl); (have eb52 := HS.out.b5.at_ (j := 2) rfl); (have eb53 := HS.out.b5.at_ (j := 3) rfl); (have eb60 := HS.out.b6.at_ (j := 0) rfl); (have eb61 := HS.out.b6.at_ (j := 1) rfl); (have eb62 := HS.out.b6.at_ (j := 2) rfl); (have eb63 := HS.out.b6.at_ (j := 3) rfl); (have ebp0 := HS.out.bp.at_ (j := 0) rfl); (have ebp1 := HS.out.bp.at_ (j := 1) rfl); (have ebq0 := HS.out.bq.at_ (j := 0) rfl); (have ebq1 := HS.out.bq.at_ (j := 1) rfl); clear hb1) | (go_at_call 208; (first | (with_reducible refine Calls.mono (C2.out _) ?_) | (with_reducible refine Calls.mono (C3.out _) ?_)); rintro e w1 ⟨rfl, hb1⟩; (replace HS := Lib.hid (HS.out.new hb1)); (have eb50 := HS.out.b5.at_ (j := 0) rfl); (have eb51 := HS.out.b5.at_ (j := 1) rfl); (have eb52 := HS.out.b5.at_ (j := 2) rfl); (have eb53 := HS.out.b5.at_ (j := 3) rfl); (have eb60 := HS.out.b6.at_ (j := 0) rfl); (have eb61 := HS.out.b6.at_ (j := 1) rfl); (have eb62 := HS.out.b6.at_ (j := 2) rfl); (have eb63 := HS.out.b6.at_ (j := 3) rfl); (have ebp0 := HS.out.bp.at_ (j := 0) rfl); (have ebp1 := HS.out.bp.at_ (j := 1) rfl); (have ebq0 := HS.out.bq.at_ (j := 0) rfl); (have ebq1 := HS.out.bq.at_ (j := 1) rfl); clear hb1))
   go_ret
   exact ⟨rfl, HS.out.below⟩
  ·
   cases b1
   ·
    go_wp2_with (first | (go_at_call 132; (first | (with_reducible refine Calls.mono (C0.out _) ?_) | (with_reducible refine Calls.mono (C1.out _) ?_)); rintro e w1 ⟨rfl, hb1⟩; (replace HS := Lib.hid (HS.out.new hb1)); (have eb50 := HS.out.b5.at_ (j := 0) rfl); (have eb51 := HS.out.b5.at_ (j := 1) rfl); (have eb52 := HS.out.b5.at_ (j := 2) rfl); (have eb53 := HS.out.b5.at_ (j := 3) rfl); (have eb60 := HS.out.b6.at_ (j := 0) rfl); (have eb61 := HS.out.b6.at_ (j := 1) rfl); (have eb62 := HS.out.b6.at_ (j := 2) rfl); (have eb63 := HS.out.b6.at_ (j := 3) rfl); (have ebp0 := HS.out.bp.at_ (j := 0) rfl); (have ebp1 := HS.out.bp.at_ (j := 1) rfl); (have ebq0 := HS.out.bq.at_ (j := 0) rfl); (have ebq1 := HS.out.bq.at_ (j := 1) rfl); clear hb1) | (go_at_call 208; (first | (with_reducible refine Calls.mono (C2.out _) ?_) | (with_reducible refine Calls.mono (C3.out _) ?_)); rintro e w1 ⟨rfl, hb1⟩; (replace HS := Lib.hid (HS.out.new hb1)); (have eb50 := HS.out.b5.at_ (j := 0) rfl); (have eb51 := HS.out.b5.at_ (j := 1) rfl); (have eb52 := HS.out.b5.at_ (j := 2) rfl); (have eb53 := HS.out.b5.at_ (j := 3) rfl); (have eb60 := HS.out.b6.at_ (j := 0) rfl); (have eb61 := HS.out.b6.at_ (j := 1) rfl); (have eb62 := HS.out.b6.at_ (j := 2) rfl); (have eb63 := HS.out.b6.at_ (j := 3) rfl); (have ebp0 := HS.out.bp.at_ (j := 0) rfl); (have ebp1 := HS.out.bp.at_ (j := 1) rfl); (have ebq0 := HS.out.bq.at_ (j := 0) rfl); (have ebq1 := HS.out.bq.at_ (j := 1) rfl); clear hb1))
    go_ret
    exact ⟨rfl, HS.out.below⟩
   ·
    cases b2
    ·
     go_wp2_with (first | (go_at_call 132; (first | (with_reducible refine Calls.mono (C0.out _) ?_) | (with_reducible refine Calls.mono (C1.out _) ?_)); rintro e w1 ⟨rfl, hb1⟩; (replace HS := Lib.hid (HS.out.new hb1)); (have eb50 := HS.out.b5.at_ (j := 0) rfl); (have eb51 := HS.out.b5.at_ (j := 1) rfl); (have eb52 := HS.out.b5.at_ (j := 2) rfl); (have eb53 := HS.out.b5.at_ (j := 3) rfl); (have eb60 := HS.out.b6.at_ (j := 0) rfl); (have eb61 := HS.out.b6.at_ (j := 1) rfl); (have eb62 := HS.out.b6.at_ (j := 2) rfl); (have eb63 := HS.out.b6.at_ (j := 3) rfl); (have ebp0 := HS.out.bp.at_ (j := 0) rfl); (have ebp1 := HS.out.bp.at_ (j := 1) rfl); (have ebq0 := HS.out.bq.at_ (j := 0) rfl); (have ebq1 := HS.out.bq.at_ (j := 1) rfl); clear hb1) | (go_at_call 208; (first | (with_reducible refine Calls.mono (C2.out _) ?_) | (with_reducible refine Calls.mono (C3.out _) ?_)); rintro e w1 ⟨rfl, hb1⟩; (replace HS := Lib.hid (HS.out.new hb1)); (have eb50 := HS.out.b5.at_ (j := 0) rfl); (have eb51 := HS.out.b5.at_ (j := 1) rfl); (have eb52 := HS.out.b5.at_ (j := 2) rfl); (have eb53 := HS.out.b5.at_ (j := 3) rfl); (have eb60 := HS.out.b6.at_ (j := 0) rfl); (have eb61 := HS.out.b6.at_ (j := 1) rfl); (have eb62 := HS.out.b6.at_ (j := 2) rfl); (have eb63 := HS.out.b6.at_ (j := 3) rfl); (have ebp0 := HS.out.bp.at_ (j := 0) rfl); (have ebp1 := HS.out.bp.at_ (j := 1) rfl); (have ebq0 := HS.out.bq.at_ (j := 0) rfl); (have ebq1 := HS.out.bq.at_ (j := 1) rfl); clear hb1))
     go_ret
     exact ⟨rfl, HS.out.below⟩
    ·
     cases b3
     ·
      go_wp2_with (first | (go_at_call 132; (first | (with_reducible refine Calls.mono (C0.out _) ?_) | (with_reducible refine Calls.mono (C1.out _) ?_)); rintro e w1 ⟨rfl, hb1⟩; (replace HS := Lib.hid (HS.out.new hb1)); (have eb50 := HS.out.b5.at_ (j := 0) rfl); (have eb51 := HS.out.b5.at_ (j := 1) rfl); (have eb52 := HS.out.b5.at_ (j := 2) rfl); (have eb53 := HS.out.b5.at_ (j := 3) rfl); (have eb60 := HS.out.b6.at_ (j := 0) rfl); (have eb61 := HS.out.b6.at_ (j := 1) rfl); (have eb62 := HS.out.b6.at_ (j := 2) rfl); (have eb63 := HS.out.b6.at_ (j := 3) rfl); (have ebp0 := HS.out.bp.at_ (j := 0) rfl); (have ebp1 := HS.out.bp.at_ (j := 1) rfl); (have ebq0 := HS.out.bq.at_ (j := 0) rfl); (have ebq1 := HS.out.bq.at_ (j := 1) rfl); clear hb1) | (go_at_call 208; (first | (with_reducible refine Calls.mono (C2.out _) ?_) | (with_reducible refine Calls.mono (C3.out _) ?_)); rintro e w1 ⟨rfl, hb1⟩; (replace HS := Lib.hid (HS.out.new hb1)); (have eb50 := HS.out.b5.at_ (j := 0) rfl); (have eb51 := HS.out.b5.at_ (j := 1) rfl); (have eb52 := HS.out.b5.at_ (j := 2) rfl); (have eb53 := HS.out.b5.at_ (j := 3) rfl); (have eb60 := HS.out.b6.at_ (j := 0) rfl); (have eb61 := HS.out.b6.at_ (j := 1) rfl); (have eb62 := HS.out.b6.at_ (j := 2) rfl); (have eb63 := HS.out.b6.at_ (j := 3) rfl); (have ebp0 := HS.out.bp.at_ (j := 0) rfl); (have ebp1 := HS.out.bp.at_ (j := 1) rfl); (have ebq0 := HS.out.bq.at_ (j := 0) rfl); (have ebq1 := HS.out.bq.at_ (j := 1) rfl); clear hb1))
      go_ret
      exact ⟨rfl, HS.out.below⟩
     ·
      go_wp2_with (first | (go_at_call 132; (first | (with_reducible refine Calls.mono (C0.out _) ?_) | (with_reducible refine Calls.mono (C1.out _) ?_)); rintro e w1 ⟨rfl, hb1⟩; (replace HS := Lib.hid (HS.out.new hb1)); (have eb50 := HS.out.b5.at_ (j := 0) rfl); (have eb51 := HS.out.b5.at_ (j := 1) rfl); (have eb52 := HS.out.b5.at_ (j := 2) rfl); (have eb53 := HS.out.b5.at_ (j := 3) rfl); (have eb60 := HS.out.b6.at_ (j := 0) rfl); (have eb61 := HS.out.b6.at_ (j := 1) rfl); (have eb62 := HS.out.b6.at_ (j := 2) rfl); (have eb63 := HS.out.b6.at_ (j := 3) rfl); (have ebp0 := HS.out.bp.at_ (j := 0) rfl); (have ebp1 := HS.out.bp.at_ (j := 1) rfl); (have ebq0 := HS.out.bq.at_ (j := 0) rfl); (have ebq1 := HS.out.bq.at_ (j := 1) rfl); clear hb1) | (go_at_call 208; (first | (with_reducible refine Calls.mono (C2.out _) ?_) | (with_reducible refine Calls.mono (C3.out _) ?_)); rintro e w1 ⟨rfl, hb1⟩; (replace HS := Lib.hid (HS.out.new hb1)); (have eb50 := HS.out.b5.at_ (j := 0) rfl); (have eb51 := HS.out.b5.at_ (j := 1) rfl); (have eb52 := HS.out.b5.at_ (j := 2) rfl); (have eb53 := HS.out.b5.at_ (j := 3) rfl); (have eb60 := HS.out.b6.at_ (j := 0) rfl); (have eb61 := HS.out.b6.at_ (j := 1) rfl); (have eb62 := HS.out.b6.at_ (j := 2) rfl); (have eb63 := HS.out.b6.at_ (j := 3) rfl); (have ebp0 := HS.out.bp.at_ (j := 0) rfl); (have ebp1 := HS.out.bp.at_ (j := 1) rfl); (have ebq0 := HS.out.bq.at_ (j := 0) rfl); (have ebq1 := HS.out.bq.at_ (j := 1) rfl); clear hb1))
      go_ret
      exact ⟨rfl, HS.out.below⟩

end Go.Proofs.YtkedacmpmancbaaGreatDoor
namespace Go.Proofs.YtkedacmpmancbaaGreatDoor
open Go Go.ChangeShapes Go.WideShapes Go.ChangeAt Go.RowKit Go.Lib
set_option linter.unusedVariables false
set_option linter.unusedSimpArgs false
set_option maxRecDepth 100000
theorem rd_tailRcg {w : World} {lo hi n b off : Nat} {x : TGrant} {l : List TGrant} (h : Rd w lo hi 7 (some ⟨b, off, none⟩) (n + 1) (cGrant (x :: l))) :
  Rd w lo hi 7 (some ⟨b, off + 7, none⟩) n (cGrant l) := by
 have hc : cGrant (x :: l) = TGrant.cells x ++ cGrant l := rfl
 refine ⟨?_, fun hn => ?_⟩
 ·
  have := h.1
  rw [hc, List.length_append, TGrant.len] at this
  omega
 ·
  obtain ⟨b', off', e, h1, h2, h3⟩ := h.2 (by omega)
  cases e
  refine ⟨b, off + 7, rfl, h1, h2, fun j u hu => ?_⟩
  rw [Nat.add_assoc]
  refine h3 (7 + j) u ?_
  rw [hc, List.getElem?_append_right (by rw [TGrant.len]; omega), TGrant.len]
  simpa using hu
set_option maxHeartbeats 4000000 in
theorem any_Rcg (p : TGrant → Bool) (lb : Array Value) (l : List TGrant) (A : Option Addr) (n c lo hi : Nat) (w : World) (hn : n ≤ 17592186044416) (hcap : n ≤ c)
  (hr : Rd w lo hi 7 A n (cGrant l)) (hp : PredB Tryz.prog 186 lb (fun x : TGrant => .agg #[.int .i64 x.f0, .int .i64 x.f1, .int .i64 x.f2, .int .i64 x.f3, .int .i64 x.f4, .int .i64 x.f5, .bool x.f6]) p l w) :
  Calls Tryz.prog 154 #[.slice A n c, .func (.func 186) #[] lb] w (Says (.bool (l.any p)) w) := by
 have HR := Lib.hid hr
 have HP := Lib.hid hp
 clear hr hp
 go_enter Tryz.func154, Tryz.ntmps154
 go_wp2_with fail
 go_loopg [0] n (fun gg v wr => ∃ (A' : Option Addr) (n' c' : Nat) (l' : List TGrant), v = .slice A' n' c' ∧ n' ≤ gg ∧ n' ≤ n ∧ n' ≤ c' ∧ Hid (Rd wr lo hi 7 A' n' (cGrant l')) ∧ Hid (∀ x, x ∈ l' → x ∈ l) ∧ Hid (l.any p = l'.any p) ∧ Hid (Below w.heap.size w wr))
 case atStart => exact ⟨_, _, _, l, rfl, Nat.le_refl _, Nat.le_refl _, hcap, HR, Lib.hid (fun _ h => h), Lib.hid rfl, Lib.hid (Below.refl _ _)⟩
 case round =>
  obtain ⟨A', n', c', l', rfl, hg, hn', hcc, HR', HM, HA, HB⟩ := hrel
  cases l' with
  | nil =>
   obtain rfl : n' = 0 := by have := HR'.out.1; simp at this; omega
   have HE := Lib.hid (show l.any p = false from HA.out)
   go_wp2_with fail
   go_ret
   exact ⟨by rw [HE.out]; rfl, HB.out⟩
  | cons x t =>
   have HL := Lib.hid (rd_len TGrant.len HR'.out (by decide))
   obtain ⟨m, rfl⟩ : ∃ m, n' = m + 1 := ⟨t.length, by have := HL.out; simp at this; omega⟩
   obtain ⟨b, off, x', rfl, _, _, hz, hc⟩ := rd_elem (k := 0) TGrant.len HR'.out HL.out (by omega)
   obtain rfl : x = x' := by simpa using hz
   have c0 : wr.cell? ⟨b, off, none⟩ = some (.int .i64 x.f0) := by simpa using hc 0 _ rfl
   have c1 : wr.cell? ⟨b, off + 1, none⟩ = some (.int .i64 x.f1) := by simpa using hc 1 _ rfl
   have c2 : wr.cell? ⟨b, off + 2, none⟩ = some (.int .i64 x.f2) := by simpa using hc 2 _ rfl
   have c3 : wr.cell? ⟨b, off + 3, none⟩ = some (.int .i64 x.f3) := by simpa using hc 3 _ rfl
   have c4 : wr.cell? ⟨b, off + 4, none⟩ = some (.int .i64 x.f4) := by simpa using hc 4 _ rfl
   have c5 : wr.cell? ⟨b, off + 5, none⟩ = some (.int .i64 x.f5) := by simpa using hc 5 _ rfl
   have c6 : wr.cell? ⟨b, off + 6, none⟩ = some (.bool x.f6) := by simpa using hc 6 _ rfl
   have HT := Lib.hid (rd_tailRcg HR'.out)
   have hcall := HP.out wr x (HM.out x (by simp)) HB.out
   have HMt := Lib.hid (fun y (h : y ∈ t) => HM.out y (List.mem_cons_of_mem _ h))
   clear hc hz HR' HM
   cases hq : p x with
   | true =>
    rw [hq] at hcall
    have HE := Lib.hid (show l.any p = true by rw [HA.out, List.any_cons, hq]; rfl)
    clear hq HA
    go_wp2_with (go_at_call 186; refine hcall.mono ?_; rintro e w1 ⟨rfl, hb1⟩; have HB1 := Lib.hid hb1; clear hb1)
    go_ret
    exact ⟨by rw [HE.out]; rfl, below_trans HB.out HB1.out (Nat.le_refl _)⟩
   | false =>
    rw [hq] at hcall
    have HE := Lib.hid (show l.any p = t.any p by rw [HA.out, List.any_cons, hq]; rfl)
    clear hq HA
    rcases Nat.eq_zero_or_pos m with rfl | hm
    ·
     obtain rfl : t = [] := by have := HL.out; simpa using this
     go_wp2_with (go_at_call 186; refine hcall.mono ?_; rintro e w1 ⟨rfl, hb1⟩; have HB1 := Lib.hid hb1; clear hb1)
     go_roundg 0
     case measure => omega
     case rel => exact ⟨_, _, _, [], rfl, Nat.le_refl _, by omega, by omega, Lib.hid Rd.empty, HMt, HE, Lib.hid (below_trans HB.out HB1.out (Nat.le_refl _))⟩
    ·
     go_wp2_with (go_at_call 186; refine hcall.mono ?_; rintro e w1 ⟨rfl, hb1⟩; have HB1 := Lib.hid hb1; clear hb1)
     go_roundg m
     case measure => omega
     case rel => exact ⟨_, _, _, t, rfl, by omega, by omega, by omega, Lib.hid (HT.out.new HB1.out), HMt, HE, Lib.hid (below_trans HB.out HB1.out (Nat.le_refl _))⟩

def mNetG (r : TRule) (g : TGrant) : Bool := g.f3 == 3 && mIsNarrower ⟨r.f2, r.f3⟩ ⟨g.f1, g.f2⟩
def mReach (l : List TGrant) (r : TRule) : Bool := l.any (mNetG r)
def mRulesIn (l : List TGrant) (rs : List TRule) : Bool := rs.all (mReach l)
set_option maxHeartbeats 4000000 in
theorem clo_reach (r : TRule) (B : Nat) (l : List TGrant) (w0 : World) (h0 : BoxAt w0 B 113 #[.int .i64 r.f0, .int .i64 r.f1, .int .i64 r.f2, .int .i64 r.f3, .int .i64 r.f4, .int .i64 r.f5, .int .i64 r.f6, .int .i64 r.f7]) :
  PredB Tryz.prog 186 #[.pointer (some ⟨B, 0, none⟩)] (fun x : TGrant => .agg #[.int .i64 x.f0, .int .i64 x.f1, .int .i64 x.f2, .int .i64 x.f3, .int .i64 x.f4, .int .i64 x.f5, .bool x.f6]) (mNetG r) l w0 := fun w g hg hb => by
 have CN := Lib.hid (fun W => impl_IsNarrower ⟨r.f2, r.f3⟩ ⟨g.f1, g.f2⟩ W)
 have k2 := (h0.new hb).at_ (j := 2) (u := .int .i64 r.f2) rfl
 have k3 := (h0.new hb).at_ (j := 3) (u := .int .i64 r.f3) rfl
 have hlt := (h0.new hb).lt
 have hM := Lib.hid (show mNetG r g = (g.f3 == 3 && mIsNarrower ⟨r.f2, r.f3⟩ ⟨g.f1, g.f2⟩) from rfl)
 change Calls Tryz.prog _ #[.agg #[.int .i64 g.f0, .int .i64 g.f1, .int .i64 g.f2, .int .i64 g.f3, .int .i64 g.f4, .int .i64 g.f5, .bool g.f6], .pointer (some ⟨B, 0, none⟩)] _ _
 generalize mIsNarrower ⟨r.f2, r.f3⟩ ⟨g.f1, g.f2⟩ = q at CN hM
 generalize mNetG r g = R at hM ⊢
 clear h0 hb hg
 cases h3 : (g.f3 == 3) with
 | false =>
  have HE := Lib.hid (show R = false by rw [hM.out, h3]; rfl)
  clear hM
  go_enter Tryz.func186, Tryz.ntmps186
  go_wp2_with fail
  go_ret
  exact ⟨by rw [HE.out]; rfl, (Below.refl _ _).alloc (Nat.le_refl _) _⟩
 | true =>
  have HE := Lib.hid (show R = q by rw [hM.out, h3]; rfl)
  clear hM
  go_enter Tryz.func186, Tryz.ntmps186
  go_wp2_with fail
  refine (CN.out _).mono ?_
  rintro e w1 ⟨rfl, hb1⟩
  have HB := Lib.hid (below_trans ((Below.refl w.heap.size w).alloc (Nat.le_refl _) (.cells #[.int .i64 g.f0, .int .i64 g.f1, .int .i64 g.f2, .int .i64 g.f3, .int .i64 g.f4, .int .i64 g.f5, .bool g.f6] 106)) hb1 (by simp))
  clear hb1
  go_wp2_with fail
  go_ret
  exact ⟨by rw [HE.out]; rfl, HB.out⟩
set_option maxHeartbeats 4000000 in
theorem impl_reach (l : List TGrant) (A : Option Addr) (n c lo hi : Nat) (r : TRule) (w : World) (hn : n ≤ 1048576) (hr : Rd w lo hi 7 A n (cGrant l)) (hcap : n ≤ c) :
  Calls Tryz.prog 145 #[.slice A n c, .agg #[.int .i64 r.f0, .int .i64 r.f1, .int .i64 r.f2, .int .i64 r.f3, .int .i64 r.f4, .int .i64 r.f5, .int .i64 r.f6, .int .i64 r.f7]] w (Says (.bool (mReach l r)) w) := by
 have hmf : ∀ (fn : Fn) (first cap : Array Value) (w : World), (Instr.makeFunc fn first cap).run Tryz.prog w = .ok (.func fn first cap) w := fun _ _ _ _ => rfl
 have HC := Lib.hid (any_Rcg (mNetG r) #[.pointer (some ⟨w.heap.size, 0, none⟩)] l A n c lo hi (w.alloc (.cells #[.int .i64 r.f0, .int .i64 r.f1, .int .i64 r.f2, .int .i64 r.f3, .int .i64 r.f4, .int .i64 r.f5, .int .i64 r.f6, .int .i64 r.f7] 113)) (by omega) hcap (hr.alloc _) (clo_reach r w.heap.size l _ (box_new w 113 #[.int .i64 r.f0, .int .i64 r.f1, .int .i64 r.f2, .int .i64 r.f3, .int .i64 r.f4, .int .i64 r.f5, .int .i64 r.f6, .int .i64 r.f7])))
 have hm := Lib.hid (show mReach l r = l.any (mNetG r) from rfl)
 rw [hm.out]
 generalize l.any (mNetG r) = q at HC ⊢
 clear hr hm
 go_enter Tryz.func145, Tryz.ntmps145
 go_wp2_with fail
 refine HC.out.mono ?_
 rintro e w1 ⟨rfl, hb1⟩
 have HB := Lib.hid (below_trans ((Below.refl w.heap.size w).alloc (Nat.le_refl _) (.cells #[.int .i64 r.f0, .int .i64 r.f1, .int .i64 r.f2, .int .i64 r.f3, .int .i64 r.f4, .int .i64 r.f5, .int .i64 r.f6, .int .i64 r.f7] 113)) hb1 (by simp))
 clear hb1
 go_wp2_with fail
 go_ret
 exact ⟨rfl, HB.out⟩
theorem impl_rulesIn (l : List TGrant) (A : Option Addr) (n c lo hi : Nat) (rs : List TRule) (A1 : Option Addr) (n1 c1 lo1 hi1 : Nat) (w : World) (hn : n ≤ 1048576) (hr : Rd w lo hi 7 A n (cGrant l)) (hcap : n ≤ c) (hn1 : n1 ≤ 1048576) (hr1 : Rd w lo1 hi1 8 A1 n1 (cRule rs)) (hcap1 : n1 ≤ c1) :
  Calls Tryz.prog 135 #[.slice A1 n1 c1, .func (.func 145) #[.slice A n c] #[]] w (Says (.bool (mRulesIn l rs)) w) :=
 all_Rch (mReach l) (.slice A n c) rs A1 n1 c1 lo1 hi1 w (by omega) hcap1 hr1 (fun W x _ hb => impl_reach l A n c lo hi x W hn (hr.new hb) hcap)
end Go.Proofs.YtkedacmpmancbaaGreatDoor
namespace Go.Proofs.YtkedacmpmancbaaGreatDoor
open Go Go.ChangeShapes Go.WideShapes Go.ChangeAt Go.RowKit Go.Lib
set_option linter.unusedVariables false
set_option linter.unusedSimpArgs false
set_option maxRecDepth 100000
theorem impl_reviewChecks (w : World) : Calls Tryz.prog 97 #[] w (fun e w' => e = .returned (.slice (some ⟨w.heap.size, 0, none⟩) 7 7) ∧ w' = w.alloc (.cells #[.string ⟨#[102, 105, 110, 101]⟩, .func (.func 140) #[] #[], .string ⟨#[102, 111, 114, 109]⟩, .func (.func 141) #[] #[], .string ⟨#[115, 101, 97, 108]⟩, .func (.func 142) #[] #[], .string ⟨#[114, 117, 108, 101]⟩, .func (.func 144) #[] #[], .string ⟨#[114, 101, 97, 100]⟩, .func (.func 146) #[] #[], .string ⟨#[115, 101, 110, 100]⟩, .func (.func 149) #[] #[], .string ⟨#[102, 108, 111, 119]⟩, .func (.func 151) #[] #[]] 142)) := by
 go_enter Tryz.func97, Tryz.ntmps97
 go_wp2_with fail
 go_ret
 exact ⟨rfl, rfl⟩
end Go.Proofs.YtkedacmpmancbaaGreatDoor
