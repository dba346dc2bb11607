/- Merged: MapI, Page, IsDoc, Under, IsEdit, AplM, ENode, Reg, AplA, CmpOr, SrtN, DlN, App0, AppO, AplB. -/
import Derived.Test.YtjgcgipglmhgeaaGreatCore
import Derived.Maps.Own
import Derived.Maps.OwnOps
import Derived.Maps.OwnSet
import Derived.Maps.Views
import Derived.Test.YtjgcgipglmhgeaaGreatTNode
import Derived.Test.YtjgcgipglmhgeaaGreatIn
import Derived.IntWalk
import Derived.Test.YtjgcgipglmhgeaaGreatTEdit
import Derived.Test.YtjgcgipglmhgeaaGreatFun
import Derived.BigQuiet
import Derived.Deep.QuietTactic
import Derived.WalkSpells
import Derived.Lib.SliceRun
import Derived.Laws.CopyOwn
import Derived.Deep.RegionHeld3
import Derived.Deep.LoopGhost
import Derived.Test.YtjgcgipglmhgeaaGreatSlI
import Derived.Test.YtjgcgipglmhgeaaGreatApp
import Derived.Test.YtjgcgipglmhgeaaGreatShelf
import Derived.Test.YtjgcgipglmhgeaaGreatClr
import Derived.Test.YtjgcgipglmhgeaaGreatRich
import Derived.Maps.AppendAt
namespace Go.Proofs.YtjgcgipglmhgeaaGreat
open Go Go.ChangeShapes Go.WideShapes Go.ChangeAt Go.RowKit Go.Lib Go.Maps
set_option linter.unusedVariables false
set_option maxRecDepth 100000

theorem keyed_int : Keyed Tryz.prog 3 := int_keyed Tryz.underlying3
theorem zero_int (w : World) : (zeroValue 3).run Tryz.prog w = .ok (.int .i64 0) w := by kernel_rfl
/-- Block b is a map of at most n entries that holds f. -/
def MapAt (w : World) (b n : Nat) (f : Int → Option Int) : Prop :=
  ∃ D : DataW Unit, w.ownsMap Tryz.prog 3 (plainElem Tryz.prog 3) b n D ∧ IsMap D ∧
    ∀ id : Int, Maps.has D (.int .i64 id) = (f id).isSome ∧ D.atKey (.int .i64 id) (.lit (.int .i64 0)) = .lit (.int .i64 ((f id).getD 0))
section
variable {w w' : World} {b n : Nat} {f g : Int → Option Int}
theorem MapAt.lt (h : MapAt w b n f) : b < w.heap.size := by
  obtain ⟨D, h1, _⟩ := h
  exact h1.lt
theorem MapAt.keep (h : MapAt w b n f) (e : w'.heap[b]? = w.heap[b]?) : MapAt w' b n f := by
  obtain ⟨D, ⟨es, clock, hb, hF⟩, h2⟩ := h
  exact ⟨D, ⟨es, clock, e.trans hb, hF⟩, h2⟩
theorem MapAt.new (h : MapAt w b n f) (hb : Below w.heap.size w w') : MapAt w' b n f := h.keep (hb.block b h.lt)
theorem MapAt.below {B : Nat} (h : MapAt w b n f) (hb : Below B w w') (hB : b < B) : MapAt w' b n f := h.keep (hb.block b hB)
theorem MapAt.alloc_ (h : MapAt w b n f) (o : Obj) : MapAt (w.alloc o) b n f := h.keep (Below.heap_alloc w o b h.lt)
theorem MapAt.congr_ (h : MapAt w b n f) (e : ∀ id, f id = g id) : MapAt w b n g := by
  have he : f = g := funext e
  exact he ▸ h
theorem MapAt.more {m : Nat} (h : MapAt w b n f) (hm : n ≤ m) : MapAt w b m f := by
  obtain ⟨D, h1, h2⟩ := h
  exact ⟨D, h1.mono hm, h2⟩
theorem mapAt_made (w : World) : MapAt (w.alloc (.map #[] 0)) w.heap.size 0 (fun _ => none) :=
  ⟨.map [], World.ownsMap_made _ _ _ _, isMap_empty, fun id => ⟨rfl, rfl⟩⟩
end
theorem make_map_hint {t : TypeId} (ht : Tryz.prog.underlying t = some (.map 3 3)) (n : Int) (w : World) :
    (Instr.makeMap t (some (.int .i64 n))).run Tryz.prog w = .ok (.map (some w.heap.size)) (w.alloc (.map #[] 0)) := by
  simp [Instr.makeMap, run_underlying ht]; rfl

section
variable {w : World} {ops : Array Oper} {rest : List Oper} {o : Oper} {a : Act} {Q : Exit → Act → World → Prop}
/-- 'v, ok := m[k]'. -/
theorem wp_look_ok (hg : o.guard = none) (m x : Operand) (t : TypeId) (hop : o.op = Op.lookup t m x true) (ht : Tryz.prog.underlying t = some (.map 3 3)) (b n : Nat) (f : Int → Option Int) (hm : a.eval m = .map (some b)) (h : MapAt w b n f)
    (id : Int) (hx : a.eval x = .int .i64 id) (hw : (Lit.int .i64 id).wf = true)
    (hK : wpList Tryz.prog ops Q rest (a.put o.dst (.tuple #[.int .i64 ((f id).getD 0), .bool (f id).isSome])) w) : wpList Tryz.prog ops Q (o :: rest) a w := by
  obtain ⟨D, h1, h2, h3⟩ := h
  refine wpList_lookup_own_ok_int w hg m x t hop 3 3 .i64 keyed_int ht Tryz.underlying3 (zero_int _) b n D hm h1 (.int .i64 id) (.int .i64 id) hx (keyOf_int_mk Tryz.underlying3 hw) ?_
  intro c hc _
  rw [(h3 id).2] at hc
  injection hc with hc
  injection hc with _ hc
  rw [(h3 id).1, ← hc]
  exact hK
/-- 'm[k] = v'. -/
theorem wp_map_put (hg : o.guard = none) (m x v : Operand) (t : TypeId) (hop : o.op = Op.mapUpdate t m x v) (ht : Tryz.prog.underlying t = some (.map 3 3)) (b n : Nat) (f : Int → Option Int) (hm : a.eval m = .map (some b)) (h : MapAt w b n f) (hn : n < maxLen)
    (id y : Int) (hx : a.eval x = .int .i64 id) (hv : a.eval v = .int .i64 y) (hw : (Lit.int .i64 id).wf = true) (hy : (Lit.int .i64 y).wf = true)
    (hK : ∀ w', MapAt w' b (n + 1) (fun k => if k = id then some y else f k) → w.grownBy w' (some b) → wpList Tryz.prog ops Q rest (a.put o.dst undef) w') : wpList Tryz.prog ops Q (o :: rest) a w := by
  obtain ⟨D, h1, h2, h3⟩ := h
  refine wpList_mapUpdate_own w hg m x v t hop 3 3 keyed_int ht _ b n D hm h1 hn (.int .i64 id) (.int .i64 y) (.int .i64 id) hx hv (keyOf_int_mk Tryz.underlying3 hw) (.lit (.int .i64 y)) [] (plainElem_int Tryz.underlying3 hy) ?_
  intro w' h4 h5
  refine hK w' ⟨_, h4, h2.put _ _, fun k => ?_⟩ h5
  by_cases e : k = id
  · subst e
    simp only [if_true]
    exact ⟨has_put_same h2 (show WideAt.IsKeyLit (.int .i64 k) from trivial) _, atKey_put_same h2 (show WideAt.IsKeyLit (.int .i64 k) from trivial) _ _⟩
  · simp only [e, if_false]
    have hne : (Lit.int .i64 k) ≠ Lit.int .i64 id := fun h => by injection h with _ h; exact e h
    exact ⟨(has_put_other hne _).trans (h3 k).1, (atKey_put_other hne _ _).trans (h3 k).2⟩
end
end Go.Proofs.YtjgcgipglmhgeaaGreat
namespace Go.Proofs.YtjgcgipglmhgeaaGreat
open Go Go.ChangeShapes Go.WideShapes Go.ChangeAt Go.RowKit Go.Lib
set_option linter.unusedVariables false
set_option maxRecDepth 100000

/-- The place of the first node with this Id. -/
def idx (l : List TNode) (id : Int) : Option Int := Option.map (fun i : Nat => (i : Int)) (l.findIdx? fun x => x.f0 == id)
theorem idx_nil (id : Int) : idx [] id = none := rfl
theorem idx_snoc {l : List TNode} {k : Nat} {x : TNode} (h : l[k]? = some x) (id : Int) : idx (l.take (k + 1)) id = (idx (l.take k) id).or (if id = x.f0 then some (k : Int) else none) := by
  have hk : (l.take k).length = k := by
    rw [List.length_take]
    have := (List.getElem?_eq_some_iff.1 h).1
    omega
  unfold idx
  rw [List.take_add_one, h, Option.toList_some, List.findIdx?_append, hk]
  cases (l.take k).findIdx? (fun x => x.f0 == id) with
  | some i => simp
  | none =>
    by_cases e : id = x.f0
    · subst e; simp
    · have : (x.f0 == id) = false := by simpa using fun h => e h.symm
      simp [e, this]
theorem idx_old {l : List TNode} {k : Nat} {x : TNode} (h : l[k]? = some x) (hs : (idx (l.take k) x.f0).isSome = true) (id : Int) : idx (l.take k) id = idx (l.take (k + 1)) id := by
  rw [idx_snoc h]
  by_cases e : id = x.f0
  · subst e
    cases hi : idx (l.take k) x.f0 with
    | some v => rfl
    | none => rw [hi] at hs; cases hs
  · simp [e]
theorem idx_new {l : List TNode} {k : Nat} {x : TNode} (h : l[k]? = some x) (hs : (idx (l.take k) x.f0).isSome = false) (id : Int) : (if id = x.f0 then some (k : Int) else idx (l.take k) id) = idx (l.take (k + 1)) id := by
  rw [idx_snoc h]
  by_cases e : id = x.f0
  · subst e
    cases hi : idx (l.take k) x.f0 with
    | some v => rw [hi] at hs; cases hs
    | none => simp
  · simp [e]
theorem idx_lt {l : List TNode} {id v : Int} (h : idx l id = some v) : ∃ (i : Nat) (x : TNode), v = i ∧ i < l.length ∧ l[i]? = some x ∧ x.f0 = id := by
  unfold idx at h
  obtain ⟨i, hi, rfl⟩ := Option.map_eq_some_iff.1 h
  obtain ⟨hlt, hp, _⟩ := List.findIdx?_eq_some_iff_getElem.1 hi
  exact ⟨i, l[i], rfl, hlt, List.getElem?_eq_getElem hlt, by simpa using hp⟩

def PageOf (l : List TNode) (A : Option Addr) (n c : Nat) (w : World) (e : Ending) (w' : World) : Prop :=
  ∃ B, e = .returned (.agg #[.slice A n c, .map (some B)]) ∧ w.heap.size ≤ B ∧ MapAt w' B n (idx l) ∧ Below w.heap.size w w'

theorem node_wf {l : List TNode} (h : cNodeOk l) {k : Nat} {x : TNode} (hx : l[k]? = some x) : (Lit.int .i64 x.f0).wf = true ∧ (Lit.int .i64 x.f1).wf = true :=
  ⟨WalkArith.wf_i64 (h x (List.mem_of_getElem? hx)).1, WalkArith.wf_i64 (h x (List.mem_of_getElem? hx)).2.1⟩

theorem newPage_any (l : List TNode) (A : Option Addr) (n c lo hi : Nat) (w : World) (hn : n ≤ 17179869184) (hr : Rd w lo hi 5 A n (cNode l)) (hok : Hid (cNodeOk l)) :
    Calls Tryz.prog 98 #[.slice A n c] w (PageOf l A n c w) := by
  have HL := Lib.hid (rd_len TNode.len hr (by decide))
  have HR := Lib.hid hr
  have hmm := make_map_hint (t := 129) Tryz.underlying129
  clear hr
  go_enter Tryz.func98, Tryz.ntmps98
  go_wp2_with fail
  go_loopw [13] (fun i wr => ∃ k : Nat, k ≤ n ∧ i = .int .i64 k ∧ MapAt wr (w.heap.size + 1) k (idx (l.take k)) ∧ BoxAt wr w.heap.size 131 #[.slice none 0 0, .map none] ∧ Below w.heap.size w wr) (fun i _ => n - (intOf i).toNat)
  case atStart =>
    refine ⟨0, Nat.zero_le _, rfl, ?_, ?_, ?_⟩
    · have h := mapAt_made (w.alloc (.cells #[.slice none 0 0, .map none] 131))
      simp only [World.size_alloc] at h
      exact h
    · exact (box_new _ _ _).alloc_ _
    · exact ((Below.refl _ _).alloc (Nat.le_refl _) _).alloc (by simp) _
  case round =>
    obtain ⟨k, hk, rfl, hM, hX, hb⟩ := hrel
    have HB := Lib.hid hb
    have HM := Lib.hid hM
    have HX := Lib.hid hX
    have HS := Lib.hid hM.lt
    by_cases hlt : k < n
    · obtain ⟨b, off, x, rfl, _, _, hz, hc⟩ := rd_elem TNode.len (HR.out.new hb) HL.out hlt
      have c0 : wr.cell? ⟨b, off + k * 5, none⟩ = _ := hc 0 _ rfl
      have c1 := hc 1 _ rfl
      have c2 := hc 2 _ rfl
      have c3 := hc 3 _ rfl
      have c4 := hc 4 _ rfl
      have HZ := Lib.hid hz
      have HW := Lib.hid (node_wf hok.out hz).1
      clear hM hX hb hz hc
      by_cases hs : (idx (l.take k) x.f0).isSome = true
      · have HI := Lib.hid (idx_old HZ.out hs)
        go_wp2_with (at_lookup; refine wp_look_ok rfl _ _ _ rfl Tryz.underlying129 (w.heap.size + 1) k _ rfl (HM.out.alloc_ _) x.f0 rfl HW.out ?_)
        go_roundw
        case rel => exact ⟨k + 1, by omega, by go_num, ((HM.out.alloc_ _).congr_ HI.out).more (by omega), HX.out.alloc_ _, HB.out.alloc HB.out.size _⟩
        case measure => simp [intOf]; omega
      · have hs : (idx (l.take k) x.f0).isSome = false := by simpa using hs
        have HI := Lib.hid (idx_new HZ.out hs)
        have HWk : Hid ((Lit.int .i64 (k : Int)).wf = true) := WalkArith.wf_i64 (by omega)
        go_wp2_with (first
          | (at_lookup; refine wp_look_ok rfl _ _ _ rfl Tryz.underlying129 (w.heap.size + 1) k _ rfl (HM.out.alloc_ _) x.f0 rfl HW.out ?_)
          | (at_mapUpdate; refine wp_map_put rfl _ _ _ _ rfl Tryz.underlying129 (w.heap.size + 1) k _ rfl (HM.out.alloc_ _) (by unfold maxLen; omega) x.f0 (k : Int) rfl rfl HW.out HWk.out ?_; intro w1 hm1 hg1; have HM1 := Lib.hid (hm1.congr_ HI.out); have HX1 := Lib.hid ((HX.out.alloc_ _).grown hg1 (by omega)); have HB1 := Lib.hid ((HB.out.alloc HB.out.size _).grown hg1 (by have := HB.out.size; simp; omega) (fun q hq => by injection hq with hq; omega)); clear hm1 hg1))
        go_roundw
        case rel => exact ⟨k + 1, by omega, by go_num, HM1.out, HX1.out, HB1.out⟩
        case measure => simp [intOf]; omega
    · obtain rfl : k = n := by omega
      rw [List.take_of_length_le (by rw [HL.out]; omega)] at hM
      have HM := Lib.hid hM
      have c0 := hX.at_ (j := 0) (u := .slice none 0 0) rfl
      have c1 := hX.at_ (j := 1) (u := .map none) rfl
      have f0 := hX.free 0
      have f1 := hX.free 1
      clear hM hX hb
      go_wp2_with fail
      refine bodyPost_ret (v := .agg #[.slice A k c, .map (some (w.heap.size + 1))]) (by simp [results, Tryz.results98, go_sem, c0, c1]) rfl ⟨w.heap.size + 1, rfl, by omega, HM.out.keep ?_, (HB.out.setCell (Nat.le_refl _) _).setCell (Nat.le_refl _) _⟩
      rw [Below.heap_setCell _ _ _ _ (by simp), Below.heap_setCell _ _ _ _ (by simp)]

theorem page_field0 (A : Option Addr) (n c : Nat) (r : Option Nat) (w : World) : (Instr.field 131 (.agg #[.slice A n c, .map r]) 0).run Tryz.prog w = .ok (.slice A n c) w := by kernel_rfl
theorem page_field1 (A : Option Addr) (n c : Nat) (r : Option Nat) (w : World) : (Instr.field 131 (.agg #[.slice A n c, .map r]) 1).run Tryz.prog w = .ok (.map r) w := by kernel_rfl
/-- The place of a node, -1 if there is none. -/
def mNodeOf (l : List TNode) (id : Int) : Int := match idx l id with | some i => i | none => -1
theorem idx_first {l : List TNode} {k : Nat} {x : TNode} {id : Int} (hn : idx (l.take k) id = none) (hx : l[k]? = some x) (e : x.f0 = id) : mNodeOf l id = k := by
  have h := idx_snoc hx id
  rw [hn, if_pos e.symm] at h
  have h2 : idx l id = some (k : Int) := by
    have hs : l = l.take (k + 1) ++ l.drop (k + 1) := (List.take_append_drop _ _).symm
    unfold idx at h ⊢
    rw [hs, List.findIdx?_append]
    cases hf : (l.take (k + 1)).findIdx? (fun x => x.f0 == id) with
    | some i => rw [hf] at h; simpa using h
    | none => rw [hf] at h; cases h
  unfold mNodeOf; rw [h2]
theorem idx_next {l : List TNode} {k : Nat} {x : TNode} {id : Int} (hn : idx (l.take k) id = none) (hx : l[k]? = some x) (e : x.f0 ≠ id) : idx (l.take (k + 1)) id = none := by
  rw [idx_snoc hx, hn, if_neg (fun h => e h.symm)]; rfl
theorem spec_NodeOf' (l0 : List TNode) (A0 : Option Addr) (n0 c0 lo0 hi0 : Nat) (a1 : Int) (w : World) (h0 : n0 ≤ 17179869184) (r0 : Rd w lo0 hi0 5 A0 n0 (cNode l0)) :
    Calls Tryz.prog 82 #[.slice A0 n0 c0, .int .i64 a1] w (fun e w' => e = .returned (.int .i64 (mNodeOf l0 a1)) ∧ w = w') := by
  have HL := Lib.hid (rd_len TNode.len r0 (by decide))
  have R0 := Lib.hid r0
  clear r0
  go_enter Tryz.func82, Tryz.ntmps82
  go_wp2_with fail
  go_loop [5] (fun i => ∃ k : Nat, k ≤ n0 ∧ i = .int .i64 k ∧ idx (l0.take k) a1 = none) (fun i => n0 - (intOf i).toNat)
  case atStart => exact ⟨0, Nat.zero_le _, rfl, rfl⟩
  case round =>
    obtain ⟨k, hk, rfl, hn⟩ := hrel
    have HN := Lib.hid hn
    clear hn
    by_cases hlt : k < n0
    · obtain ⟨b, off, x, rfl, _, _, hz, hc⟩ := rd_elem TNode.len R0.out HL.out hlt
      have c0 : w.cell? ⟨b, off + k * 5, none⟩ = _ := hc 0 _ rfl
      by_cases e : x.f0 = a1
      · have g : (x.f0 == a1) = true := by simpa using e
        have HE := Lib.hid (idx_first HN.out hz e)
        clear hz hc e
        go_wp2_with fail
        go_ret
        exact ⟨by rw [HE.out]; rfl, rfl⟩
      · have g : (x.f0 == a1) = false := by simpa using e
        have HE := Lib.hid (idx_next HN.out hz e)
        clear hz hc e
        go_wp2_with fail
        go_round
        case rel => exact ⟨k + 1, by omega, by go_num, HE.out⟩
        case measure => simp [intOf]; omega
    · obtain rfl : k = n0 := by omega
      have HE := Lib.hid (show mNodeOf l0 a1 = -1 by
        have h := HN.out
        rw [List.take_of_length_le (by rw [HL.out]; omega)] at h
        unfold mNodeOf; rw [h])
      go_wp2_with fail
      go_ret
      exact ⟨by rw [HE.out]; rfl, rfl⟩
theorem spec_NodeOf (l0 : List TNode) (A0 : Option Addr) (n0 c0 lo0 hi0 : Nat) (a1 : Int) (w : World) (h0 : n0 ≤ 1048576) (r0 : Rd w lo0 hi0 5 A0 n0 (cNode l0)) (b0 : Hid (cNodeOk l0)) (w1 : (Lit.int .i64 a1).wf = true) :
    Calls Tryz.prog 82 #[.slice A0 n0 c0, .int .i64 a1] w (Says (.int .i64 (mNodeOf l0 a1)) w) := says_of_same (spec_NodeOf' l0 A0 n0 c0 lo0 hi0 a1 w (by omega) r0)
end Go.Proofs.YtjgcgipglmhgeaaGreat
namespace Go.Proofs.YtjgcgipglmhgeaaGreat
open Go Go.ChangeShapes Go.WideShapes Go.ChangeAt Go.RowKit Go.Lib
set_option linter.unusedVariables false
set_option maxRecDepth 100000

def valAt (x : TNode) : Bool := inR x.f2 0 9 && inR x.f3 0 999 && inR x.f4 0 5
/-- Whether a node stands rightly behind those before it. -/
def fitAt (l : List TNode) (k : Nat) (x : TNode) : Bool :=
  if k = 0 then x.f0 == 0 && x.f1 == -1 else (match l[k - 1]? with | some y => decide (y.f0 < x.f0) | none => false) && (idx (l.take k) x.f1).isSome
def docAt (l : List TNode) (i : Nat) : Bool := match l[i]? with | some x => fitAt l i x && valAt x | none => false
def docTo (l : List TNode) (k : Nat) : Bool := (List.range k).all (docAt l)
def mIsDoc (l : List TNode) : Bool := inR l.length 1 16 && docTo l l.length
theorem docTo_snoc (l : List TNode) (k : Nat) : docTo l (k + 1) = (docTo l k && docAt l k) := by
  unfold docTo
  rw [List.range_succ, List.all_append]; simp
theorem docTo_no {l : List TNode} {k n : Nat} (h : docAt l k = false) (hk : k < n) : docTo l n = false := by
  unfold docTo
  rw [List.all_eq_false]
  exact ⟨k, List.mem_range.2 hk, by simp [h]⟩
theorem docAt_some {l : List TNode} {k : Nat} {x : TNode} (h : l[k]? = some x) : docAt l k = (fitAt l k x && valAt x) := by unfold docAt; rw [h]
theorem isDoc_no {l : List TNode} {k : Nat} {x : TNode} (h : l[k]? = some x) (hf : (fitAt l k x && valAt x) = false) : mIsDoc l = false := by
  unfold mIsDoc
  rw [docTo_no (k := k) (by rw [docAt_some h]; exact hf) (List.getElem?_eq_some_iff.1 h).1]; simp
theorem idx_take_some {l : List TNode} {id p : Int} (k : Nat) (hk : k ≤ l.length) (h : idx l id = some p) : (idx (l.take k) id).isSome = decide (p < k) := by
  have hs : l = l.take k ++ l.drop k := (List.take_append_drop _ _).symm
  have hl : (l.take k).length = k := by rw [List.length_take]; omega
  unfold idx at h ⊢
  rw [hs, List.findIdx?_append, hl] at h
  cases hf : (l.take k).findIdx? (fun x => x.f0 == id) with
  | some i =>
    rw [hf] at h
    have hi := (List.findIdx?_eq_some_iff_getElem.1 hf).1
    simp at h
    subst h
    simp; omega
  | none =>
    rw [hf] at h
    simp at h
    obtain ⟨j, hj, hp⟩ := h
    simp
    omega
theorem idx_take_none {l : List TNode} {id : Int} (k : Nat) (h : idx l id = none) : (idx (l.take k) id).isSome = false := by
  have hs : l = l.take k ++ l.drop k := (List.take_append_drop _ _).symm
  unfold idx at h ⊢
  rw [hs, List.findIdx?_append] at h
  cases hf : (l.take k).findIdx? (fun x => x.f0 == id) with
  | some i => rw [hf] at h; simp at h
  | none => rfl
theorem has_values (x : TNode) (w : World) :
    Calls Tryz.prog 132 #[.agg #[.int .i64 x.f0, .int .i64 x.f1, .int .i64 x.f2, .int .i64 x.f3, .int .i64 x.f4]] w (Says (.bool (valAt x)) w) := by
  by_cases h0 : inR x.f2 0 9 = true
  · skip
    by_cases h1 : inR x.f3 0 999 = true
    · skip
      by_cases h2 : inR x.f4 0 5 = true
      · skip
        have HE := Lib.hid (show valAt x = true by simp [valAt, h0, h1, h2])
        go_enter Tryz.func132, Tryz.ntmps132
        go_wp2_with (first | (go_at_call 93; refine (impl_in _ _ _ _).mono ?_; rintro e w1 ⟨rfl, rfl⟩))
        go_ret
        exact ⟨by rw [HE.out]; rfl, by repeat (first | exact Below.refl _ _ | (refine Below.alloc ?_ (by simp <;> omega) _) | (refine below_dN ?_ _))⟩
      · have h2 : inR x.f4 0 5 = false := by simpa using h2
        have HE := Lib.hid (show valAt x = false by simp [valAt, h0, h1, h2])
        go_enter Tryz.func132, Tryz.ntmps132
        go_wp2_with (first | (go_at_call 93; refine (impl_in _ _ _ _).mono ?_; rintro e w1 ⟨rfl, rfl⟩))
        go_ret
        exact ⟨by rw [HE.out]; rfl, by repeat (first | exact Below.refl _ _ | (refine Below.alloc ?_ (by simp <;> omega) _) | (refine below_dN ?_ _))⟩
    · have h1 : inR x.f3 0 999 = false := by simpa using h1
      have HE := Lib.hid (show valAt x = false by simp [valAt, h0, h1])
      go_enter Tryz.func132, Tryz.ntmps132
      go_wp2_with (first | (go_at_call 93; refine (impl_in _ _ _ _).mono ?_; rintro e w1 ⟨rfl, rfl⟩))
      go_ret
      exact ⟨by rw [HE.out]; rfl, by repeat (first | exact Below.refl _ _ | (refine Below.alloc ?_ (by simp <;> omega) _) | (refine below_dN ?_ _))⟩
  · have h0 : inR x.f2 0 9 = false := by simpa using h0
    have HE := Lib.hid (show valAt x = false by simp [valAt, h0])
    go_enter Tryz.func132, Tryz.ntmps132
    go_wp2_with (first | (go_at_call 93; refine (impl_in _ _ _ _).mono ?_; rintro e w1 ⟨rfl, rfl⟩))
    go_ret
    exact ⟨by rw [HE.out]; rfl, by repeat (first | exact Below.refl _ _ | (refine Below.alloc ?_ (by simp <;> omega) _) | (refine below_dN ?_ _))⟩
theorem fits_at (l : List TNode) (A : Option Addr) (n c lo hi B : Nat) (k : Nat) (x : TNode) (w : World) (hn : n ≤ 17179869184) (hr : Rd w lo hi 5 A n (cNode l)) (hok : Hid (cNodeOk l)) (hM : MapAt w B n (idx l)) (hk : k < n) (hx : l[k]? = some x) :
    Calls Tryz.prog 131 #[.agg #[.slice A n c, .map (some B)], .int .i64 (k : Int)] w (Says (.bool (fitAt l k x)) w) := by
  have HL := Lib.hid (rd_len TNode.len hr (by decide))
  have HM := Lib.hid hM
  have HW := Lib.hid (node_wf hok.out hx).2
  obtain ⟨b, off, x', rfl, _, _, hz, hc⟩ := rd_elem TNode.len hr HL.out hk
  obtain rfl : x = x' := Option.some.inj (hx.symm.trans hz)
  have c0 : w.cell? ⟨b, off + k * 5, none⟩ = _ := hc 0 _ rfl
  have hbl : b < w.heap.size := World.block_lt_of_cell? w _ c0
  have c1 := hc 1 _ rfl
  have c2 := hc 2 _ rfl
  have c3 := hc 3 _ rfl
  have c4 := hc 4 _ rfl
  have HR := Lib.hid hr
  have HX := Lib.hid hx
  clear hM hr hx hz hc
  by_cases h0 : k = 0
  · have g0 : ((k : Int) == 0) = true := by simp; omega
    have H0 := Lib.hid h0
    clear h0
    by_cases e0 : (x.f0 == 0) = true
    · by_cases e1 : (x.f1 == -1) = true
      · have HE := Lib.hid (show fitAt l k x = true by simp [fitAt, H0.out, e0, e1])
        go_enter Tryz.func131, Tryz.ntmps131
        go_wp2_with fail
        go_ret
        exact ⟨by rw [HE.out]; rfl, by repeat (first | exact Below.refl _ _ | (refine Below.alloc ?_ (by simp <;> omega) _) | (refine below_dN ?_ _))⟩
      · have e1 : (x.f1 == -1) = false := by simpa using e1
        have HE := Lib.hid (show fitAt l k x = false by simp [fitAt, H0.out, e1])
        go_enter Tryz.func131, Tryz.ntmps131
        go_wp2_with fail
        go_ret
        exact ⟨by rw [HE.out]; rfl, by repeat (first | exact Below.refl _ _ | (refine Below.alloc ?_ (by simp <;> omega) _) | (refine below_dN ?_ _))⟩
    · have e0 : (x.f0 == 0) = false := by simpa using e0
      have HE := Lib.hid (show fitAt l k x = false by simp [fitAt, H0.out, e0])
      go_enter Tryz.func131, Tryz.ntmps131
      go_wp2_with fail
      go_ret
      exact ⟨by rw [HE.out]; rfl, by repeat (first | exact Below.refl _ _ | (refine Below.alloc ?_ (by simp <;> omega) _) | (refine below_dN ?_ _))⟩
  · obtain ⟨b2, off2, y, hA2, _, _, hzy, hcy⟩ := rd_elem TNode.len HR.out HL.out (show k - 1 < n by omega)
    injection hA2 with hA2
    injection hA2 with hb2 ho2 _
    subst hb2
    subst ho2
    have d0 : w.cell? ⟨b, off + (k - 1) * 5, none⟩ = _ := hcy 0 _ rfl
    have g0 : ((k : Int) == 0) = false := by simp; omega
    have gk : (k : Int) - 1 = ((k - 1 : Nat) : Int) := by omega
    have hk1 : k - 1 < n := by omega
    have HY := Lib.hid hzy
    have HF := Lib.hid (show fitAt l k x = (decide (y.f0 < x.f0) && (idx (l.take k) x.f1).isSome) by unfold fitAt; rw [if_neg h0, HY.out])
    clear hzy hcy
    cases hi : idx l x.f1 with
    | none =>
      have HE := Lib.hid (show fitAt l k x = false by rw [HF.out, idx_take_none k hi]; simp)
      have h1 : (idx l x.f1).isSome = false := by rw [hi]; rfl
      clear hi HF
      by_cases hg : y.f0 < x.f0
      · have gg : decide (y.f0 < x.f0) = true := by simpa using hg
        go_enter Tryz.func131, Tryz.ntmps131
        go_wp2_with (at_lookup; refine wp_look_ok rfl _ _ _ rfl Tryz.underlying129 B n _ rfl ((HM.out.alloc_ _).alloc_ _) x.f1 rfl HW.out ?_)
        go_quiet (fail)
        go_wp2_with fail
        go_ret
        exact ⟨by rw [HE.out]; rfl, by repeat (first | exact Below.refl _ _ | (refine Below.alloc ?_ (by simp <;> omega) _) | (refine below_dN ?_ _))⟩
      · have gg : decide (y.f0 < x.f0) = false := by simpa using hg
        go_enter Tryz.func131, Tryz.ntmps131
        go_wp2_with (at_lookup; refine wp_look_ok rfl _ _ _ rfl Tryz.underlying129 B n _ rfl ((HM.out.alloc_ _).alloc_ _) x.f1 rfl HW.out ?_)
        go_quiet (fail)
        go_wp2_with fail
        go_ret
        exact ⟨by rw [HE.out]; rfl, by repeat (first | exact Below.refl _ _ | (refine Below.alloc ?_ (by simp <;> omega) _) | (refine below_dN ?_ _))⟩
    | some p =>
      have HT := Lib.hid (idx_take_some k (by rw [HL.out]; omega) hi)
      have h1 : (idx l x.f1).isSome = true := by rw [hi]; rfl
      have h2 : (idx l x.f1).getD 0 = p := by rw [hi]; rfl
      clear hi
      by_cases hg : y.f0 < x.f0
      · by_cases hp : p < (k : Int)
        · have HE := Lib.hid (show fitAt l k x = true by rw [HF.out, HT.out]; simp [hg, hp])
          have gp : decide (p < (k : Int)) = true := by simpa using hp
          go_enter Tryz.func131, Tryz.ntmps131
          go_wp2_with (at_lookup; refine wp_look_ok rfl _ _ _ rfl Tryz.underlying129 B n _ rfl ((HM.out.alloc_ _).alloc_ _) x.f1 rfl HW.out ?_)
          go_quiet (fail)
          go_wp2_with fail
          go_ret
          exact ⟨by rw [HE.out]; rfl, by repeat (first | exact Below.refl _ _ | (refine Below.alloc ?_ (by simp <;> omega) _) | (refine below_dN ?_ _))⟩
        · have HE := Lib.hid (show fitAt l k x = false by rw [HF.out, HT.out]; simp [hp])
          have gp : decide (p < (k : Int)) = false := by simpa using hp
          go_enter Tryz.func131, Tryz.ntmps131
          go_wp2_with (at_lookup; refine wp_look_ok rfl _ _ _ rfl Tryz.underlying129 B n _ rfl ((HM.out.alloc_ _).alloc_ _) x.f1 rfl HW.out ?_)
          go_quiet (fail)
          go_wp2_with fail
          go_ret
          exact ⟨by rw [HE.out]; rfl, by repeat (first | exact Below.refl _ _ | (refine Below.alloc ?_ (by simp <;> omega) _) | (refine below_dN ?_ _))⟩
      · have HE := Lib.hid (show fitAt l k x = false by rw [HF.out]; simp [hg])
        have gg : decide (y.f0 < x.f0) = false := by simpa using hg
        go_enter Tryz.func131, Tryz.ntmps131
        go_wp2_with (at_lookup; refine wp_look_ok rfl _ _ _ rfl Tryz.underlying129 B n _ rfl ((HM.out.alloc_ _).alloc_ _) x.f1 rfl HW.out ?_)
        go_quiet (fail)
        go_wp2_with fail
        go_ret
        exact ⟨by rw [HE.out]; rfl, by repeat (first | exact Below.refl _ _ | (refine Below.alloc ?_ (by simp <;> omega) _) | (refine below_dN ?_ _))⟩
theorem impl_IsDocument (l0 : List TNode) (A0 : Option Addr) (n0 c0 lo0 hi0 : Nat) (w : World) (h0 : n0 ≤ 17179869184) (r0 : Rd w lo0 hi0 5 A0 n0 (cNode l0)) (b0 : Hid (cNodeOk l0)) :
    Calls Tryz.prog 102 #[.slice A0 n0 c0] w (Says (.bool (mIsDoc l0)) w) := by
  have HL := Lib.hid (rd_len TNode.len r0 (by decide))
  have HR := Lib.hid r0
  clear r0
  by_cases hlen : inR (n0 : Int) 1 16 = true
  · have H16 := inR_true.1 hlen
    have hn16 : n0 ≤ 16 := by omega
    clear H16
    go_enter Tryz.func102, Tryz.ntmps102
    go_wp2_with (go_at_call 93; refine (impl_in _ _ _ _).mono ?_; rintro e w1 ⟨rfl, rfl⟩)
    refine (newPage_any l0 A0 n0 c0 lo0 hi0 _ (by omega) HR.out b0).mono ?_
    rintro e w1 ⟨B, rfl, hB, hM, hb⟩
    have HM := Lib.hid hM
    have HB := Lib.hid hb
    have HS := Lib.hid hb.size
    have HMl := Lib.hid hM.lt
    clear hM hb
    go_wp2_with fail
    go_loopw [14] (fun i wr => ∃ k : Nat, k ≤ n0 ∧ i = .int .i64 k ∧ docTo l0 k = true ∧ MapAt wr B n0 (idx l0) ∧ BoxAt wr w1.heap.size 131 #[.slice A0 n0 c0, .map (some B)] ∧ Below w.heap.size w wr) (fun i _ => n0 - (intOf i).toNat)
    case atStart => exact ⟨0, Nat.zero_le _, rfl, rfl, HM.out.alloc_ _, box_new _ _ _, HB.out.alloc HS.out _⟩
    case round =>
      obtain ⟨k, hk, rfl, hd, hM, hX, hb⟩ := hrel
      have HB2 := Lib.hid hb
      have HM2 := Lib.hid hM
      have HX2 := Lib.hid hX
      have HD := Lib.hid hd
      have HS2 := Lib.hid hb.size
      have hxl : w1.heap.size < wr.heap.size := hX.lt
      have p0 := hX.at_ (j := 0) (u := .slice A0 n0 c0) rfl
      have p1 := hX.at_ (j := 1) (u := .map (some B)) rfl
      by_cases hlt : k < n0
      · have HRw := Lib.hid (HR.out.new hb)
        obtain ⟨b, off, x, hA, _, _, hz, hc⟩ := rd_elem TNode.len HRw.out HL.out hlt
        subst hA
        have c0 : wr.cell? ⟨b, off + k * 5, none⟩ = _ := hc 0 _ rfl
        have c1 := hc 1 _ rfl
        have c2 := hc 2 _ rfl
        have c3 := hc 3 _ rfl
        have c4 := hc 4 _ rfl
        have HZ := Lib.hid hz
        clear hd hM hX hb hz hc
        by_cases hf : fitAt l0 k x = true
        · by_cases hv : valAt x = true
          · have HD2 := Lib.hid (show docTo l0 (k + 1) = true by rw [docTo_snoc, HD.out, docAt_some HZ.out, hf, hv]; rfl)
            go_wp2_with fail
            refine (fits_at l0 _ n0 _ lo0 hi0 B k x _ h0 (HRw.out.alloc _) b0 (HM2.out.alloc_ _) hlt HZ.out).mono ?_
            rintro e w2 ⟨rfl, hb2⟩
            have HM3 := Lib.hid ((HM2.out.alloc_ _).new hb2)
            have HX3 := Lib.hid ((HX2.out.alloc_ _).new hb2)
            have HB3 := Lib.hid (below_trans (HB2.out.alloc HS2.out (.cells #[.int .i64 x.f0, .int .i64 x.f1, .int .i64 x.f2, .int .i64 x.f3, .int .i64 x.f4] 70)) hb2 (Nat.le_refl _))
            have KX := (box_new wr 70 #[.int .i64 x.f0, .int .i64 x.f1, .int .i64 x.f2, .int .i64 x.f3, .int .i64 x.f4]).new hb2
            have k0 := KX.at_ (j := 0) rfl
            have k1 := KX.at_ (j := 1) rfl
            have k2 := KX.at_ (j := 2) rfl
            have k3 := KX.at_ (j := 3) rfl
            have k4 := KX.at_ (j := 4) rfl
            clear hb2 KX c0 c1 c2 c3 c4 p0 p1
            go_wp2_with fail
            refine (has_values x _).mono ?_
            rintro e w3 ⟨rfl, hb3⟩
            have HM4 := Lib.hid (HM3.out.new hb3)
            have HX4 := Lib.hid (HX3.out.new hb3)
            have HB4 := Lib.hid (below_trans HB3.out hb3 (Nat.le_refl _))
            clear hb3
            go_wp2_with fail
            go_roundw
            case rel => exact ⟨k + 1, by omega, by go_num, HD2.out, HM4.out, HX4.out, HB4.out⟩
            case measure => simp [intOf]; omega
          · have hv : valAt x = false := by simpa using hv
            have HE := Lib.hid (isDoc_no HZ.out (by rw [hv]; simp))
            go_wp2_with fail
            refine (fits_at l0 _ n0 _ lo0 hi0 B k x _ h0 (HRw.out.alloc _) b0 (HM2.out.alloc_ _) hlt HZ.out).mono ?_
            rintro e w2 ⟨rfl, hb2⟩
            have HM3 := Lib.hid ((HM2.out.alloc_ _).new hb2)
            have HX3 := Lib.hid ((HX2.out.alloc_ _).new hb2)
            have HB3 := Lib.hid (below_trans (HB2.out.alloc HS2.out (.cells #[.int .i64 x.f0, .int .i64 x.f1, .int .i64 x.f2, .int .i64 x.f3, .int .i64 x.f4] 70)) hb2 (Nat.le_refl _))
            have KX := (box_new wr 70 #[.int .i64 x.f0, .int .i64 x.f1, .int .i64 x.f2, .int .i64 x.f3, .int .i64 x.f4]).new hb2
            have k0 := KX.at_ (j := 0) rfl
            have k1 := KX.at_ (j := 1) rfl
            have k2 := KX.at_ (j := 2) rfl
            have k3 := KX.at_ (j := 3) rfl
            have k4 := KX.at_ (j := 4) rfl
            clear hb2 KX c0 c1 c2 c3 c4 p0 p1
            go_wp2_with fail
            refine (has_values x _).mono ?_
            rintro e w3 ⟨rfl, hb3⟩
            have HB4 := Lib.hid (below_trans HB3.out hb3 (Nat.le_refl _))
            clear hb3
            go_wp2_with fail
            go_ret
            exact ⟨by rw [HE.out]; rfl, HB4.out⟩
        · have hf : fitAt l0 k x = false := by simpa using hf
          have HE := Lib.hid (isDoc_no HZ.out (by rw [hf]; simp))
          go_wp2_with fail
          refine (fits_at l0 _ n0 _ lo0 hi0 B k x _ h0 (HRw.out.alloc _) b0 (HM2.out.alloc_ _) hlt HZ.out).mono ?_
          rintro e w2 ⟨rfl, hb2⟩
          have HM3 := Lib.hid ((HM2.out.alloc_ _).new hb2)
          have HX3 := Lib.hid ((HX2.out.alloc_ _).new hb2)
          have HB3 := Lib.hid (below_trans (HB2.out.alloc HS2.out (.cells #[.int .i64 x.f0, .int .i64 x.f1, .int .i64 x.f2, .int .i64 x.f3, .int .i64 x.f4] 70)) hb2 (Nat.le_refl _))
          have KX := (box_new wr 70 #[.int .i64 x.f0, .int .i64 x.f1, .int .i64 x.f2, .int .i64 x.f3, .int .i64 x.f4]).new hb2
          have k0 := KX.at_ (j := 0) rfl
          have k1 := KX.at_ (j := 1) rfl
          have k2 := KX.at_ (j := 2) rfl
          have k3 := KX.at_ (j := 3) rfl
          have k4 := KX.at_ (j := 4) rfl
          clear hb2 KX c0 c1 c2 c3 c4 p0 p1
          go_wp2_with fail
          go_ret
          exact ⟨by rw [HE.out]; rfl, HB3.out⟩
      · obtain rfl : k = n0 := by omega
        have HE := Lib.hid (show mIsDoc l0 = true by unfold mIsDoc; rw [HL.out, hlen, hd]; rfl)
        clear hd hM hX hb
        go_wp2_with fail
        go_ret
        exact ⟨by rw [HE.out]; rfl, HB2.out⟩
  · have hlen : inR (n0 : Int) 1 16 = false := by simpa using hlen
    have HE := Lib.hid (show mIsDoc l0 = false by unfold mIsDoc; rw [HL.out, hlen]; rfl)
    go_enter Tryz.func102, Tryz.ntmps102
    go_wp2_with (go_at_call 93; refine (impl_in _ _ _ _).mono ?_; rintro e w1 ⟨rfl, rfl⟩)
    go_ret
    exact ⟨by rw [HE.out]; rfl, Below.refl _ _⟩
theorem take_rd {w : World} {lo hi n c : Nat} {A : Option Addr} {l : List TNode} (h : Rd w lo hi 5 A n (cNode l)) {k : Nat} (hk : k ≤ n) (hl : l.length = n) : Rd w lo hi 5 A k (cNode (l.take k)) := by
  refine ⟨by rw [flat_len TNode.len, List.length_take]; congr 1; omega, fun h0 => ?_⟩
  obtain ⟨b, off, hA, h1, h2, hc⟩ := h.2 (by omega)
  refine ⟨b, off, hA, h1, h2, fun j u hu => hc j u ?_⟩
  have hu : ((l.take k).flatMap TNode.cells)[j]? = some u := hu
  rw [flat_take TNode.len, List.getElem?_take] at hu
  split at hu
  · exact hu
  · cases hu
theorem mNodeOf_neg {l : List TNode} {id : Int} (h : (idx l id).isSome = false) : mNodeOf l id < 0 := by
  unfold mNodeOf
  cases hi : idx l id with
  | some v => rw [hi] at h; cases h
  | none => decide
theorem mNodeOf_pos {l : List TNode} {id : Int} (h : (idx l id).isSome = true) : 0 ≤ mNodeOf l id := by
  unfold mNodeOf
  cases hi : idx l id with
  | none => rw [hi] at h; cases h
  | some v => obtain ⟨i, _, hv, _⟩ := idx_lt hi; simp only [hv]; omega
set_option maxHeartbeats 2000000 in
theorem spec_IsDocument' (l0 : List TNode) (A0 : Option Addr) (n0 c0' lo0 hi0 : Nat) (w : World) (h0 : n0 ≤ 17179869184) (hcap : n0 ≤ c0') (r0 : Rd w lo0 hi0 5 A0 n0 (cNode l0)) :
    Calls Tryz.prog 50 #[.slice A0 n0 c0'] w (Says (.bool (mIsDoc l0)) w) := by
  have HL := Lib.hid (rd_len TNode.len r0 (by decide))
  have HR := Lib.hid r0
  clear r0
  by_cases hlen : inR (n0 : Int) 1 16 = true
  · have H16 := inR_true.1 hlen
    have hn16 : n0 ≤ 16 := by omega
    have hn1 : 0 < n0 := by omega
    clear H16
    obtain ⟨b, off, y0, rfl, _, _, hz0, hc0⟩ := rd_elem TNode.len HR.out HL.out hn1
    have z0 : w.cell? ⟨b, off, none⟩ = some (.int .i64 y0.f0) := by simpa using hc0 0 _ rfl
    have z1 : w.cell? ⟨b, off + 1, none⟩ = some (.int .i64 y0.f1) := by simpa using hc0 1 _ rfl
    have HZ0 := Lib.hid hz0
    clear hz0 hc0
    by_cases e0 : (y0.f0 != 0) = true
    · have HE := Lib.hid (isDoc_no HZ0.out (by have : (y0.f0 == 0) = false := by simpa using e0
                                               simp [fitAt, this]))
      go_enter Tryz.func50, Tryz.ntmps50
      go_wp2_with (go_at_call 47; refine (spec_in _ _ _ _).mono ?_; rintro e w1 ⟨rfl, rfl⟩)
      go_ret
      exact ⟨by rw [HE.out]; rfl, Below.refl _ _⟩
    · have e0 : (y0.f0 != 0) = false := by simpa using e0
      by_cases e1 : (y0.f1 != -1) = true
      · have HE := Lib.hid (isDoc_no HZ0.out (by have : (y0.f1 == -1) = false := by simpa using e1
                                                 simp [fitAt, this]))
        go_enter Tryz.func50, Tryz.ntmps50
        go_wp2_with (go_at_call 47; refine (spec_in _ _ _ _).mono ?_; rintro e w1 ⟨rfl, rfl⟩)
        go_ret
        exact ⟨by rw [HE.out]; rfl, Below.refl _ _⟩
      · have e1 : (y0.f1 != -1) = false := by simpa using e1
        have HF0 := Lib.hid (show fitAt l0 0 y0 = true by
          have q0 : (y0.f0 == 0) = true := by simpa using e0
          have q1 : (y0.f1 == -1) = true := by simpa using e1
          simp [fitAt, q0, q1])
        go_enter Tryz.func50, Tryz.ntmps50
        go_wp2_with (go_at_call 47; refine (spec_in _ _ _ _).mono ?_; rintro e w1 ⟨rfl, rfl⟩)
        go_loopw [3] (fun i wr => ∃ k : Nat, k ≤ n0 ∧ i = .int .i64 k ∧ docTo l0 k = true ∧ Below w.heap.size w wr) (fun i _ => n0 - (intOf i).toNat)
        case atStart => exact ⟨0, Nat.zero_le _, rfl, rfl, Below.refl _ _⟩
        case round =>
          obtain ⟨k, hk, rfl, hd, hb⟩ := hrel
          have HD := Lib.hid hd
          have HB := Lib.hid hb
          have HRw := Lib.hid (HR.out.new hb)
          clear hd hb e0 e1 z0 z1
          by_cases hlt : k < n0
          · obtain ⟨b', off', x, hA, _, _, hz, hc⟩ := rd_elem TNode.len HRw.out HL.out hlt
            injection hA with hA
            injection hA with hA1 hA2 _
            subst hA1
            subst hA2
            have c0 : wr.cell? ⟨b, off + k * 5, none⟩ = _ := hc 0 _ rfl
            have c1 := hc 1 _ rfl
            have c2 := hc 2 _ rfl
            have c3 := hc 3 _ rfl
            have c4 := hc 4 _ rfl
            have HZ := Lib.hid hz
            clear hc
            by_cases hk0 : k = 0
            · have HFit := Lib.hid (show fitAt l0 k x = true by
                subst hk0
                obtain rfl : y0 = x := Option.some.inj (HZ0.out.symm.trans hz)
                exact HF0.out)
              have g0 : decide (0 < k) = false := by simp; omega
              clear hk0 hz
              by_cases h2 : inR x.f2 0 9 = true
              · by_cases h3 : inR x.f3 0 999 = true
                · by_cases h4 : inR x.f4 0 5 = true
                  · have HD2 := Lib.hid (show docTo l0 (k + 1) = true by rw [docTo_snoc, HD.out, docAt_some HZ.out, HFit.out]; simp [valAt, h2, h3, h4])
                    go_wp2_with fail
                    go_quiet (fail)
                    go_wp2_with (go_at_call 47; refine (spec_in _ _ _ _).mono ?_; rintro e w1 ⟨rfl, rfl⟩)
                    go_roundw
                    case rel => exact ⟨k + 1, by omega, by go_num, HD2.out, by first | exact below_dN HB.out _ | exact HB.out⟩
                    case measure => simp [intOf]; omega
                  · have h4 : inR x.f4 0 5 = false := by simpa using h4
                    have HE := Lib.hid (isDoc_no HZ.out (by simp [valAt, h4]))
                    go_wp2_with fail
                    go_quiet (fail)
                    go_wp2_with (go_at_call 47; refine (spec_in _ _ _ _).mono ?_; rintro e w1 ⟨rfl, rfl⟩)
                    go_ret
                    exact ⟨by rw [HE.out]; rfl, by first | exact below_dN HB.out _ | exact HB.out⟩
                · have h3 : inR x.f3 0 999 = false := by simpa using h3
                  have HE := Lib.hid (isDoc_no HZ.out (by simp [valAt, h3]))
                  go_wp2_with fail
                  go_quiet (fail)
                  go_wp2_with (go_at_call 47; refine (spec_in _ _ _ _).mono ?_; rintro e w1 ⟨rfl, rfl⟩)
                  go_ret
                  exact ⟨by rw [HE.out]; rfl, by first | exact below_dN HB.out _ | exact HB.out⟩
              · have h2 : inR x.f2 0 9 = false := by simpa using h2
                have HE := Lib.hid (isDoc_no HZ.out (by simp [valAt, h2]))
                go_wp2_with fail
                go_quiet (fail)
                go_wp2_with (go_at_call 47; refine (spec_in _ _ _ _).mono ?_; rintro e w1 ⟨rfl, rfl⟩)
                go_ret
                exact ⟨by rw [HE.out]; rfl, by first | exact below_dN HB.out _ | exact HB.out⟩
            · have g0 : 0 < k := by omega
              obtain ⟨b2, off2, y, hA2, _, _, hzy, hcy⟩ := rd_elem TNode.len HRw.out HL.out (show k - 1 < n0 by omega)
              injection hA2 with hA2
              injection hA2 with hb2 ho2 _
              subst hb2
              subst ho2
              have d0 : wr.cell? ⟨b, off + (k - 1) * 5, none⟩ = _ := hcy 0 _ rfl
              have gk : (k : Int) - 1 = ((k - 1 : Nat) : Int) := by omega
              have gw : IntKind.i64.wrap ((k - 1 : Nat) : Int) = ((k - 1 : Nat) : Int) := IntWalk.i64_in _ (by omega)
              have hk1 : k - 1 < n0 := by omega
              have hkc : k ≤ c0' := by omega
              have HP := Lib.hid (take_rd (c := c0') HRw.out (k := k) (by omega) HL.out)
              have HF := Lib.hid (show fitAt l0 k x = (decide (y.f0 < x.f0) && (idx (l0.take k) x.f1).isSome) by unfold fitAt; rw [if_neg hk0, hzy])
              clear hk0 hz hzy hcy
              by_cases hg : y.f0 < x.f0
              · have gg : decide (x.f0 ≤ y.f0) = false := by simp; omega
                by_cases hi : (idx (l0.take k) x.f1).isSome = true
                · have gn : decide (mNodeOf (l0.take k) x.f1 < 0) = false := by have := mNodeOf_pos hi; simp; omega
                  have HFit := Lib.hid (show fitAt l0 k x = true by rw [HF.out, hi]; simp [hg])
                  clear hi hg
                  by_cases h2 : inR x.f2 0 9 = true
                  · by_cases h3 : inR x.f3 0 999 = true
                    · by_cases h4 : inR x.f4 0 5 = true
                      · have HD2 := Lib.hid (show docTo l0 (k + 1) = true by rw [docTo_snoc, HD.out, docAt_some HZ.out, HFit.out]; simp [valAt, h2, h3, h4])
                        go_wp2_with fail
                        go_quiet ((go_at_call 82; exact Calls.quiet_of_same ((spec_NodeOf' (l0.take k) _ k c0' lo0 hi0 x.f1 _ (by omega) (HP.out.drewN _)).mono fun _ _ ⟨a, b⟩ => ⟨a, b.symm⟩)))
                        go_wp2_with (go_at_call 47; refine (spec_in _ _ _ _).mono ?_; rintro e w1 ⟨rfl, rfl⟩)
                        go_roundw
                        case rel => exact ⟨k + 1, by omega, by go_num, HD2.out, by first | exact below_dN HB.out _ | exact HB.out⟩
                        case measure => simp [intOf]; omega
                      · have h4 : inR x.f4 0 5 = false := by simpa using h4
                        have HE := Lib.hid (isDoc_no HZ.out (by simp [valAt, h4]))
                        go_wp2_with fail
                        go_quiet ((go_at_call 82; exact Calls.quiet_of_same ((spec_NodeOf' (l0.take k) _ k c0' lo0 hi0 x.f1 _ (by omega) (HP.out.drewN _)).mono fun _ _ ⟨a, b⟩ => ⟨a, b.symm⟩)))
                        go_wp2_with (go_at_call 47; refine (spec_in _ _ _ _).mono ?_; rintro e w1 ⟨rfl, rfl⟩)
                        go_ret
                        exact ⟨by rw [HE.out]; rfl, by first | exact below_dN HB.out _ | exact HB.out⟩
                    · have h3 : inR x.f3 0 999 = false := by simpa using h3
                      have HE := Lib.hid (isDoc_no HZ.out (by simp [valAt, h3]))
                      go_wp2_with fail
                      go_quiet ((go_at_call 82; exact Calls.quiet_of_same ((spec_NodeOf' (l0.take k) _ k c0' lo0 hi0 x.f1 _ (by omega) (HP.out.drewN _)).mono fun _ _ ⟨a, b⟩ => ⟨a, b.symm⟩)))
                      go_wp2_with (go_at_call 47; refine (spec_in _ _ _ _).mono ?_; rintro e w1 ⟨rfl, rfl⟩)
                      go_ret
                      exact ⟨by rw [HE.out]; rfl, by first | exact below_dN HB.out _ | exact HB.out⟩
                  · have h2 : inR x.f2 0 9 = false := by simpa using h2
                    have HE := Lib.hid (isDoc_no HZ.out (by simp [valAt, h2]))
                    go_wp2_with fail
                    go_quiet ((go_at_call 82; exact Calls.quiet_of_same ((spec_NodeOf' (l0.take k) _ k c0' lo0 hi0 x.f1 _ (by omega) (HP.out.drewN _)).mono fun _ _ ⟨a, b⟩ => ⟨a, b.symm⟩)))
                    go_wp2_with (go_at_call 47; refine (spec_in _ _ _ _).mono ?_; rintro e w1 ⟨rfl, rfl⟩)
                    go_ret
                    exact ⟨by rw [HE.out]; rfl, by first | exact below_dN HB.out _ | exact HB.out⟩
                · have hi : (idx (l0.take k) x.f1).isSome = false := by simpa using hi
                  have gn : decide (mNodeOf (l0.take k) x.f1 < 0) = true := by have := mNodeOf_neg hi; simpa using this
                  have HE := Lib.hid (isDoc_no HZ.out (by rw [HF.out, hi]; simp))
                  clear hi hg
                  go_wp2_with fail
                  go_quiet ((go_at_call 82; exact Calls.quiet_of_same ((spec_NodeOf' (l0.take k) _ k c0' lo0 hi0 x.f1 _ (by omega) (HP.out.drewN _)).mono fun _ _ ⟨a, b⟩ => ⟨a, b.symm⟩)))
                  go_wp2_with fail
                  go_ret
                  exact ⟨by rw [HE.out]; rfl, by first | exact below_dN HB.out _ | exact HB.out⟩
              · have gg : decide (x.f0 ≤ y.f0) = true := by simp; omega
                have HE := Lib.hid (isDoc_no HZ.out (by rw [HF.out]; simp [hg]))
                clear hg
                go_wp2_with fail
                go_quiet ((go_at_call 82; exact Calls.quiet_of_same ((spec_NodeOf' (l0.take k) _ k c0' lo0 hi0 x.f1 _ (by omega) (HP.out.drewN _)).mono fun _ _ ⟨a, b⟩ => ⟨a, b.symm⟩)))
                go_wp2_with fail
                go_ret
                exact ⟨by rw [HE.out]; rfl, by first | exact below_dN HB.out _ | exact HB.out⟩
          · obtain rfl : k = n0 := by omega
            have HE := Lib.hid (show mIsDoc l0 = true by unfold mIsDoc; rw [HL.out, hlen, HD.out]; rfl)
            go_wp2_with fail
            go_ret
            exact ⟨by rw [HE.out]; rfl, by first | exact below_dN HB.out _ | exact HB.out⟩
  · have hlen : inR (n0 : Int) 1 16 = false := by simpa using hlen
    have HE := Lib.hid (show mIsDoc l0 = false by unfold mIsDoc; rw [HL.out, hlen]; rfl)
    go_enter Tryz.func50, Tryz.ntmps50
    go_wp2_with (go_at_call 47; refine (spec_in _ _ _ _).mono ?_; rintro e w1 ⟨rfl, rfl⟩)
    go_ret
    exact ⟨by rw [HE.out]; rfl, Below.refl _ _⟩
theorem spec_IsDocument (l0 : List TNode) (A0 : Option Addr) (n0 c0 lo0 hi0 : Nat) (w : World) (h0 : n0 ≤ 1048576) (r0 : Rd w lo0 hi0 5 A0 n0 (cNode l0)) (p0 : n0 ≤ c0) (b0 : Hid (cNodeOk l0)) :
    Calls Tryz.prog 50 #[.slice A0 n0 c0] w (Says (.bool (mIsDoc l0)) w) := spec_IsDocument' l0 A0 n0 c0 lo0 hi0 w (by omega) p0 r0
theorem impl_IsDocumentC (l0 : List TNode) (A0 : Option Addr) (n0 c0 lo0 hi0 : Nat) (w : World) (h0 : n0 ≤ 1048576) (r0 : Rd w lo0 hi0 5 A0 n0 (cNode l0)) (p0 : n0 ≤ c0) (b0 : Hid (cNodeOk l0)) :
    Calls Tryz.prog 102 #[.slice A0 n0 c0] w (Says (.bool (mIsDoc l0)) w) := impl_IsDocument l0 A0 n0 c0 lo0 hi0 w (by omega) r0 b0
end Go.Proofs.YtjgcgipglmhgeaaGreat
namespace Go.Proofs.YtjgcgipglmhgeaaGreat
open Go Go.ChangeShapes Go.WideShapes Go.ChangeAt Go.RowKit Go.Lib Go.Maps
set_option linter.unusedVariables false
set_option maxRecDepth 100000

/-- The way up from a node, in at most so many steps: does it meet 'top'? -/
def under (l : List TNode) (top : Int) : Nat → Int → Bool
  | 0, _ => false
  | f + 1, id => if id = top then true else if id = 0 then false else match l[(mNodeOf l id).toNat]? with | some x => under l top f x.f1 | none => false
def mUnder (l : List TNode) (id top : Int) : Bool := mIsDoc l && (idx l id).isSome && (idx l top).isSome && under l top (l.length + 1) id
theorem doc_at {l : List TNode} (h : mIsDoc l = true) {k : Nat} {x : TNode} (hx : l[k]? = some x) : fitAt l k x = true := by
  unfold mIsDoc docTo at h
  rw [Bool.and_eq_true, List.all_eq_true] at h
  have hk := h.2 k (List.mem_range.2 (List.getElem?_eq_some_iff.1 hx).1)
  rw [docAt_some hx, Bool.and_eq_true] at hk
  exact hk.1
theorem doc_nonneg {l : List TNode} (h : mIsDoc l = true) : ∀ (k : Nat) (x : TNode), l[k]? = some x → 0 ≤ x.f0 := by
  intro k
  induction k with
  | zero =>
    intro x hx
    have hf := doc_at h hx
    unfold fitAt at hf
    rw [if_pos rfl, Bool.and_eq_true, beq_iff_eq] at hf
    omega
  | succ k ih =>
    intro x hx
    have hf := doc_at h hx
    unfold fitAt at hf
    rw [if_neg (by omega), Bool.and_eq_true] at hf
    have hlt := (List.getElem?_eq_some_iff.1 hx).1
    have hy : l[k]? = some l[k] := List.getElem?_eq_getElem (by omega)
    rw [Nat.add_sub_cancel, hy] at hf
    have h1 := ih _ hy
    have h2 := of_decide_eq_true hf.1
    omega
theorem idx_of_take {l : List TNode} {id : Int} {j : Nat} (h : (idx (l.take j) id).isSome = true) : ∃ p : Nat, idx l id = some (p : Int) ∧ p < j := by
  cases hi : idx l id with
  | none => rw [idx_take_none j hi] at h; cases h
  | some v =>
    obtain ⟨i, x, rfl, hl, _⟩ := idx_lt hi
    refine ⟨i, rfl, ?_⟩
    by_cases hj : j ≤ l.length
    · rw [idx_take_some j hj hi] at h
      have := of_decide_eq_true h
      omega
    · omega
/-- What a round of the way up needs: the node, and where its parent stands. -/
theorem doc_up {l : List TNode} (h : mIsDoc l = true) {id : Int} {j : Nat} (hi : idx l id = some (j : Int)) (h0 : id ≠ 0) : ∃ x, l[j]? = some x ∧ x.f0 = id ∧ 0 < id ∧ ∃ p : Nat, idx l x.f1 = some (p : Int) ∧ p < j := by
  obtain ⟨i, x, hv, hl, hx, hx0⟩ := idx_lt hi
  obtain rfl : j = i := by omega
  have hn := doc_nonneg h _ _ hx
  refine ⟨x, hx, hx0, by omega, ?_⟩
  have hf := doc_at h hx
  unfold fitAt at hf
  by_cases hj : j = 0
  · rw [if_pos hj, Bool.and_eq_true, beq_iff_eq] at hf
    omega
  · rw [if_neg hj, Bool.and_eq_true] at hf
    exact idx_of_take hf.2
theorem mNode_of {l : List TNode} {id : Int} {j : Nat} (h : idx l id = some (j : Int)) : mNodeOf l id = j := by unfold mNodeOf; rw [h]
theorem under_step {l : List TNode} {top id : Int} {f j : Nat} {x : TNode} {R : Bool} (h : under l top (f + 1) id = R) (hi : idx l id = some (j : Int)) (hx : l[j]? = some x) (h1 : id ≠ top) (h0 : id ≠ 0) : under l top f x.f1 = R := by
  unfold under at h
  rw [if_neg h1, if_neg h0, mNode_of hi] at h
  simpa [hx] using h
theorem under_top {l : List TNode} {top id : Int} {f : Nat} {R : Bool} (h : under l top (f + 1) id = R) (h1 : id = top) : R = true := by
  unfold under at h
  rw [if_pos h1] at h
  exact h.symm
theorem under_root {l : List TNode} {top id : Int} {f : Nat} {R : Bool} (h : under l top (f + 1) id = R) (h1 : id ≠ top) (h0 : id = 0) : R = false := by
  unfold under at h
  rw [if_neg h1, if_pos h0] at h
  exact h.symm

section
variable {w : World} {ops : Array Oper} {rest : List Oper} {o : Oper} {a : Act} {Q : Exit → Act → World → Prop}
/-- 'm[k]'. -/
theorem wp_look (hg : o.guard = none) (m x : Operand) (t : TypeId) (hop : o.op = Op.lookup t m x false) (ht : Tryz.prog.underlying t = some (.map 3 3)) (b n : Nat) (f : Int → Option Int) (hm : a.eval m = .map (some b)) (h : MapAt w b n f)
    (id : Int) (hx : a.eval x = .int .i64 id) (hw : (Lit.int .i64 id).wf = true)
    (hK : wpList Tryz.prog ops Q rest (a.put o.dst (.int .i64 ((f id).getD 0))) w) : wpList Tryz.prog ops Q (o :: rest) a w := by
  obtain ⟨D, h1, h2, h3⟩ := h
  refine wpList_lookup_own_int w hg m x t hop 3 3 .i64 keyed_int ht Tryz.underlying3 (zero_int _) b n D hm h1 (.int .i64 id) (.int .i64 id) hx (keyOf_int_mk Tryz.underlying3 hw) ?_
  intro c hc _
  rw [(h3 id).2] at hc
  injection hc with hc
  injection hc with _ hc
  rw [← hc]
  exact hK
end
theorem page_has (l : List TNode) (A : Option Addr) (n c B m : Nat) (x y : Int) (g : Nat) (w : World) (hM : MapAt w B m (idx l)) (wx : (Lit.int .i64 x).wf = true) (wy : (Lit.int .i64 y).wf = true)
    (h0 : w.cell? ⟨g, 0, none⟩ = some (.int .i64 x)) (h1 : w.cell? ⟨g, 1, none⟩ = some (.int .i64 y)) :
    Calls Tryz.prog 181 #[.agg #[.slice A n c, .map (some B)], .slice (some ⟨g, 0, none⟩) 2 2] w (Says (.bool ((idx l x).isSome && (idx l y).isSome)) w) := by
  have HM := Lib.hid hM
  have WX := Lib.hid wx
  have WY := Lib.hid wy
  have hgl : g < w.heap.size := World.block_lt_of_cell? w _ h0
  clear hM wx wy
  go_enter Tryz.func181, Tryz.ntmps181
  go_wp2_with fail
  go_loop [11] (fun i => ∃ k : Nat, k ≤ 2 ∧ i = .int .i64 k ∧ (0 < k → (idx l x).isSome = true) ∧ (1 < k → (idx l y).isSome = true)) (fun i => 2 - (intOf i).toNat)
  case atStart => exact ⟨0, by omega, rfl, fun h => absurd h (by omega), fun h => absurd h (by omega)⟩
  case round =>
    obtain ⟨k, hk, rfl, hx, hy⟩ := hrel
    have HX := Lib.hid hx
    have HY := Lib.hid hy
    have HW := Lib.hid ((Below.refl w.heap.size w).alloc (Nat.le_refl _) (.cells #[.slice A n c, .map (some B)] 131))
    have HM2 := Lib.hid (HM.out.alloc_ (.cells #[.slice A n c, .map (some B)] 131))
    clear hx hy
    have hk3 : k = 0 ∨ k = 1 ∨ k = 2 := by omega
    rcases hk3 with rfl | rfl | rfl
    · by_cases e : (idx l x).isSome = true
      · go_wp2_with (at_lookup; refine wp_look_ok rfl _ _ _ rfl Tryz.underlying129 B m _ rfl HM2.out x rfl WX.out ?_)
        go_round
        case rel => exact ⟨1, by omega, by go_num, fun _ => e, fun h => absurd h (by omega)⟩
        case measure => simp [intOf]
      · have e : (idx l x).isSome = false := by simpa using e
        go_wp2_with (at_lookup; refine wp_look_ok rfl _ _ _ rfl Tryz.underlying129 B m _ rfl HM2.out x rfl WX.out ?_)
        go_ret
        exact ⟨by rfl, HW.out⟩
    · have ex := HX.out (by omega)
      by_cases e : (idx l y).isSome = true
      · go_wp2_with (at_lookup; refine wp_look_ok rfl _ _ _ rfl Tryz.underlying129 B m _ rfl HM2.out y rfl WY.out ?_)
        go_round
        case rel => exact ⟨2, by omega, by go_num, fun _ => ex, fun _ => e⟩
        case measure => simp [intOf]
      · have e : (idx l y).isSome = false := by simpa using e
        go_wp2_with (at_lookup; refine wp_look_ok rfl _ _ _ rfl Tryz.underlying129 B m _ rfl HM2.out y rfl WY.out ?_)
        go_ret
        exact ⟨by rfl, HW.out⟩
    · have ex := HX.out (by omega)
      have ey := HY.out (by omega)
      go_wp2_with fail
      go_ret
      exact ⟨by rfl, HW.out⟩
theorem page_under (l : List TNode) (A : Option Addr) (n c lo hi B m : Nat) (x y : Int) (w : World) (hn : n ≤ 1048576) (hr : Rd w lo hi 5 A n (cNode l)) (hok : Hid (cNodeOk l)) (hM : MapAt w B m (idx l)) (hdoc : mIsDoc l = true) (wx : (Lit.int .i64 x).wf = true) (wy : (Lit.int .i64 y).wf = true) :
    Calls Tryz.prog 207 #[.agg #[.slice A n c, .map (some B)], .int .i64 x, .int .i64 y] w (Says (.bool (mUnder l x y)) w) := by
  have HM := Lib.hid hM
  have HL := Lib.hid (rd_len TNode.len hr (by decide))
  have HR := Lib.hid hr
  have WX := Lib.hid wx
  have WY := Lib.hid wy
  have HD := Lib.hid hdoc
  clear hr hM wx wy hdoc
  by_cases hh : ((idx l x).isSome && (idx l y).isSome) = true
  · have hxs : (idx l x).isSome = true := by simp only [Bool.and_eq_true] at hh; exact hh.1
    have HE := Lib.hid (show mUnder l x y = under l y (l.length + 1) x by
      unfold mUnder
      rw [HD.out, Bool.true_and, hh, Bool.true_and])
    go_enter Tryz.func207, Tryz.ntmps207
    go_wp2_with fail
    refine (page_has l A n c B m x y _ _ ((HM.out.alloc_ _).alloc_ _) WX.out WY.out (by simp) (by simp)).mono ?_
    rintro e w1 ⟨rfl, hb⟩
    have HB := Lib.hid ((((Below.refl w.heap.size w).alloc (Nat.le_refl _) (.cells #[.slice A n c, .map (some B)] 131)).alloc (by simp) (.cells #[.int .i64 x, .int .i64 y] 3)).trans (hb.mono (by simp <;> omega)))
    have HX := Lib.hid (((box_new w 131 #[.slice A n c, .map (some B)]).alloc_ (.cells #[.int .i64 x, .int .i64 y] 3)).new hb)
    clear hb
    rw [hh]
    go_wp2_with fail
    go_loopw [1] (fun v wr => ∃ (id : Int) (j f : Nat), v = .int .i64 id ∧ idx l id = some (j : Int) ∧ j ≤ f ∧ under l y (f + 1) id = mUnder l x y ∧ (Lit.int .i64 id).wf = true ∧ BoxAt wr w.heap.size 131 #[.slice A n c, .map (some B)] ∧ Below w.heap.size w wr) (fun v _ => (mNodeOf l (intOf v)).toNat)
    case atStart =>
      obtain ⟨v, hv⟩ := Option.isSome_iff_exists.1 hxs
      obtain ⟨i, _, rfl, hl, _⟩ := idx_lt hv
      exact ⟨x, i, l.length, rfl, hv, by omega, HE.out.symm, WX.out, HX.out, HB.out⟩
    case round =>
      obtain ⟨id, j, f, rfl, hi, hj, hu, wid, hX, hb⟩ := hrel
      have HB2 := Lib.hid hb
      have HX2 := Lib.hid hX
      have HM2 := Lib.hid (HM.out.new hb)
      have HRw := Lib.hid (HR.out.new hb)
      have HI := Lib.hid hi
      have HU := Lib.hid hu
      have WID := Lib.hid wid
      have p0 := hX.at_ (j := 0) (u := .slice A n c) rfl
      have p1 := hX.at_ (j := 1) (u := .map (some B)) rfl
      clear hi hu wid hX hb
      by_cases e1 : id = y
      · have g1 : (id != y) = false := by simpa using e1
        have g2 : (id == y) = true := by simpa using e1
        have HE2 := Lib.hid (under_top HU.out e1)
        clear e1
        go_wp2_with fail
        go_ret
        exact ⟨by rw [HE2.out]; first | rfl | simp [g2], HB2.out⟩
      · have g1 : (id != y) = true := by simpa using e1
        have g2 : (id == y) = false := by simpa using e1
        by_cases e0 : id = 0
        · have g3 : (id != 0) = false := by simpa using e0
          have HE2 := Lib.hid (under_root HU.out e1 e0)
          clear e1 e0
          go_wp2_with fail
          go_ret
          exact ⟨by rw [HE2.out]; first | rfl | simp [g2], HB2.out⟩
        · have g3 : (id != 0) = true := by simpa using e0
          obtain ⟨q, hq, hq0, hpos, pp, hp, hpj⟩ := doc_up HD.out HI.out e0
          have hjl : j < n := by rw [← HL.out]; exact (List.getElem?_eq_some_iff.1 hq).1
          obtain ⟨b, off, q', rfl, _, _, hz, hc⟩ := rd_elem TNode.len HRw.out HL.out hjl
          obtain rfl : q = q' := Option.some.inj (hq.symm.trans hz)
          have c1 := hc 1 _ rfl
          have gi : (idx l id).getD 0 = (j : Int) := by rw [HI.out]; rfl
          have WQ := Lib.hid (node_wf hok.out hq).2
          have HP := Lib.hid hp
          have HM3 := Lib.hid (mNode_of HI.out)
          have HM4 := Lib.hid (mNode_of hp)
          obtain ⟨f', rfl⟩ : ∃ f', f = f' + 1 := ⟨f - 1, by omega⟩
          have HU2 := Lib.hid (under_step HU.out HI.out hq e1 e0)
          clear hz hc hq hp e1 e0 hq0
          go_wp2_with (at_lookup; refine wp_look rfl _ _ _ rfl Tryz.underlying129 B m _ rfl HM2.out id rfl WID.out ?_)
          go_roundw
          case rel => exact ⟨q.f1, pp, f', rfl, HP.out, by omega, HU2.out, WQ.out, HX2.out, HB2.out⟩
          case measure => have h3 := HM3.out; have h4 := HM4.out; simp [intOf, h3, h4]; omega
  · have hh : ((idx l x).isSome && (idx l y).isSome) = false := by simpa using hh
    have HE := Lib.hid (show mUnder l x y = false by
      unfold mUnder
      rw [HD.out, Bool.true_and, hh, Bool.false_and])
    go_enter Tryz.func207, Tryz.ntmps207
    go_wp2_with fail
    refine (page_has l A n c B m x y _ _ ((HM.out.alloc_ _).alloc_ _) WX.out WY.out (by simp) (by simp)).mono ?_
    rintro e w1 ⟨rfl, hb⟩
    have HB := Lib.hid ((((Below.refl w.heap.size w).alloc (Nat.le_refl _) (.cells #[.slice A n c, .map (some B)] 131)).alloc (by simp) (.cells #[.int .i64 x, .int .i64 y] 3)).trans (hb.mono (by simp <;> omega)))
    clear hb
    rw [hh]
    go_wp2_with fail
    go_ret
    exact ⟨by rw [HE.out]; rfl, HB.out⟩
theorem spec_IsUnder (l0 : List TNode) (A0 : Option Addr) (n0 c0 lo0 hi0 : Nat) (a1 a2 : Int) (w : World) (h0 : n0 ≤ 1048576) (r0 : Rd w lo0 hi0 5 A0 n0 (cNode l0)) (p0 : n0 ≤ c0) (b0 : Hid (cNodeOk l0)) (w1 : (Lit.int .i64 a1).wf = true) (w2 : (Lit.int .i64 a2).wf = true) :
    Calls Tryz.prog 142 #[.slice A0 n0 c0, .int .i64 a1, .int .i64 a2] w (Says (.bool (mUnder l0 a1 a2)) w) := by
  have HL := Lib.hid (rd_len TNode.len r0 (by decide))
  have HR := Lib.hid r0
  clear r0
  by_cases hd : mIsDoc l0 = true
  · by_cases hx : (idx l0 a1).isSome = true
    · have gx : decide (mNodeOf l0 a1 < 0) = false := by have := mNodeOf_pos hx; simp; omega
      by_cases hy : (idx l0 a2).isSome = true
      · have gy : decide (mNodeOf l0 a2 < 0) = false := by have := mNodeOf_pos hy; simp; omega
        have HE := Lib.hid (show mUnder l0 a1 a2 = under l0 a2 (l0.length + 1) a1 by
          unfold mUnder
          rw [hd, hx, hy]; simp)
        have HD := Lib.hid hd
        go_enter Tryz.func142, Tryz.ntmps142
        go_wp2_with fail
        refine (spec_IsDocument' l0 A0 n0 c0 lo0 hi0 _ (by omega) p0 HR.out).mono ?_
        rintro e w3 ⟨rfl, hb⟩
        rw [hd]
        have HR3 := Lib.hid (HR.out.new hb)
        have HB3 := Lib.hid hb
        clear hb
        go_wp2_with fail
        refine (spec_NodeOf' l0 A0 n0 c0 lo0 hi0 a1 _ (by omega) HR3.out).mono ?_
        rintro e w4 ⟨rfl, rfl⟩
        go_wp2_with fail
        refine (spec_NodeOf' l0 A0 n0 c0 lo0 hi0 a2 _ (by omega) HR3.out).mono ?_
        rintro e w4 ⟨rfl, rfl⟩
        go_wp2_with fail
        go_loop [1] (fun v => ∃ (id : Int) (j f : Nat), v = .int .i64 id ∧ idx l0 id = some (j : Int) ∧ j ≤ f ∧ under l0 a2 (f + 1) id = mUnder l0 a1 a2) (fun v => (mNodeOf l0 (intOf v)).toNat)
        case atStart =>
          obtain ⟨v, hv⟩ := Option.isSome_iff_exists.1 hx
          obtain ⟨i, _, rfl, hl, _⟩ := idx_lt hv
          exact ⟨a1, i, l0.length, rfl, hv, by omega, HE.out.symm⟩
        case round =>
          obtain ⟨id, j, f, rfl, hi, hj, hu⟩ := hrel
          have HI := Lib.hid hi
          have HU := Lib.hid hu
          clear hi hu
          by_cases e1 : id = a2
          · have g1 : (id != a2) = false := by simpa using e1
            have g2 : (id == a2) = true := by simpa using e1
            have HE2 := Lib.hid (under_top HU.out e1)
            clear e1
            go_wp2_with fail
            go_ret
            exact ⟨by rw [HE2.out]; first | rfl | simp [g2], HB3.out⟩
          · have g1 : (id != a2) = true := by simpa using e1
            have g2 : (id == a2) = false := by simpa using e1
            by_cases e0 : id = 0
            · have g3 : decide (0 < id) = false := by simp; omega
              have HE2 := Lib.hid (under_root HU.out e1 e0)
              clear e1 e0
              go_wp2_with fail
              go_ret
              exact ⟨by rw [HE2.out]; first | rfl | simp [g2], HB3.out⟩
            · obtain ⟨q, hq, hq0, hpos, pp, hp, hpj⟩ := doc_up HD.out HI.out e0
              have g3 : decide (0 < id) = true := by simp; omega
              have hjl : j < n0 := by rw [← HL.out]; exact (List.getElem?_eq_some_iff.1 hq).1
              obtain ⟨b, off, q', rfl, _, _, hz, hc⟩ := rd_elem TNode.len HR3.out HL.out hjl
              obtain rfl : q = q' := Option.some.inj (hq.symm.trans hz)
              have c1 := hc 1 _ rfl
              have HP := Lib.hid hp
              have HM3 := Lib.hid (mNode_of HI.out)
              have HM4 := Lib.hid (mNode_of hp)
              obtain ⟨f', rfl⟩ : ∃ f', f = f' + 1 := ⟨f - 1, by omega⟩
              have HU2 := Lib.hid (under_step HU.out HI.out hq e1 e0)
              clear hz hc hq hp e1 e0 hq0
              go_wp2_with fail
              refine (spec_NodeOf' l0 _ n0 c0 lo0 hi0 id _ (by omega) HR3.out).mono ?_
              rintro e w4 ⟨rfl, rfl⟩
              rw [HM3.out]
              go_wp2_with fail
              go_round
              case rel => exact ⟨q.f1, pp, f', rfl, HP.out, by omega, HU2.out⟩
              case measure => have h3 := HM3.out; have h4 := HM4.out; simp [intOf, h3, h4]; omega
      · have hy : (idx l0 a2).isSome = false := by simpa using hy
        have gy : decide (mNodeOf l0 a2 < 0) = true := by have := mNodeOf_neg hy; simpa using this
        have HE := Lib.hid (show mUnder l0 a1 a2 = false by
          unfold mUnder
          rw [hd, hx, hy]; simp)
        go_enter Tryz.func142, Tryz.ntmps142
        go_wp2_with fail
        refine (spec_IsDocument' l0 A0 n0 c0 lo0 hi0 _ (by omega) p0 HR.out).mono ?_
        rintro e w3 ⟨rfl, hb⟩
        rw [hd]
        have HR3 := Lib.hid (HR.out.new hb)
        have HB3 := Lib.hid hb
        clear hb
        go_wp2_with fail
        refine (spec_NodeOf' l0 A0 n0 c0 lo0 hi0 a1 _ (by omega) HR3.out).mono ?_
        rintro e w4 ⟨rfl, rfl⟩
        go_wp2_with fail
        refine (spec_NodeOf' l0 A0 n0 c0 lo0 hi0 a2 _ (by omega) HR3.out).mono ?_
        rintro e w4 ⟨rfl, rfl⟩
        go_wp2_with fail
        go_ret
        exact ⟨by rw [HE.out]; rfl, HB3.out⟩
    · have hx : (idx l0 a1).isSome = false := by simpa using hx
      have gx : decide (mNodeOf l0 a1 < 0) = true := by have := mNodeOf_neg hx; simpa using this
      have HE := Lib.hid (show mUnder l0 a1 a2 = false by
        unfold mUnder
        rw [hd, hx]; simp)
      go_enter Tryz.func142, Tryz.ntmps142
      go_wp2_with fail
      refine (spec_IsDocument' l0 A0 n0 c0 lo0 hi0 _ (by omega) p0 HR.out).mono ?_
      rintro e w3 ⟨rfl, hb⟩
      rw [hd]
      have HR3 := Lib.hid (HR.out.new hb)
      have HB3 := Lib.hid hb
      clear hb
      go_wp2_with fail
      refine (spec_NodeOf' l0 A0 n0 c0 lo0 hi0 a1 _ (by omega) HR3.out).mono ?_
      rintro e w4 ⟨rfl, rfl⟩
      go_wp2_with fail
      go_ret
      exact ⟨by rw [HE.out]; rfl, HB3.out⟩
  · have hd : mIsDoc l0 = false := by simpa using hd
    have HE := Lib.hid (show mUnder l0 a1 a2 = false by
      unfold mUnder
      rw [hd]; simp)
    go_enter Tryz.func142, Tryz.ntmps142
    go_wp2_with fail
    refine (spec_IsDocument' l0 A0 n0 c0 lo0 hi0 _ (by omega) p0 HR.out).mono ?_
    rintro e w3 ⟨rfl, hb⟩
    rw [hd]
    go_wp2_with fail
    go_ret
    exact ⟨by rw [HE.out]; rfl, hb⟩
end Go.Proofs.YtjgcgipglmhgeaaGreat
namespace Go.Proofs.YtjgcgipglmhgeaaGreat
open Go Go.ChangeShapes Go.WideShapes Go.ChangeAt Go.RowKit Go.Lib
set_option linter.unusedVariables false
set_option maxRecDepth 100000
theorem bcells {W w1 : World} (hb : Below W.heap.size W w1) : (∀ b o, b < W.heap.size → w1.cell? ⟨b, o, none⟩ = W.cell? ⟨b, o, none⟩) :=
  fun b o h => hb.cell (p := ⟨b, o, none⟩) h
def mIsEdit (a0 : TEdit) : Bool := inR a0.f0 1 4 && inR a0.f1 1 99 && inR a0.f2 0 99 && inR a0.f3 0 9 && inR a0.f4 0 999 && inR a0.f5 0 5
theorem spec_IsEdit (a0 : TEdit) (w : World) (H : Hid a0.fit) :
    Calls Tryz.prog 114 #[.agg #[.int .i64 a0.f0, .int .i64 a0.f1, .int .i64 a0.f2, .int .i64 a0.f3, .int .i64 a0.f4, .int .i64 a0.f5]] w (Says (.bool (mIsEdit a0)) w) := by
  by_cases h0 : inR a0.f0 1 4 = true
  · skip
    by_cases h1 : inR a0.f1 1 99 = true
    · skip
      by_cases h2 : inR a0.f2 0 99 = true
      · skip
        by_cases h3 : inR a0.f3 0 9 = true
        · skip
          by_cases h4 : inR a0.f4 0 999 = true
          · skip
            by_cases h5 : inR a0.f5 0 5 = true
            · skip
              have HE := Lib.hid (show mIsEdit a0 = true by simp [mIsEdit, h0, h1, h2, h3, h4, h5])
              go_enter Tryz.func114, Tryz.ntmps114
              go_wp2_with (first | (go_at_call 47; refine (spec_in _ _ _ _).mono ?_; rintro e w1 ⟨rfl, rfl⟩))
              go_ret
              exact ⟨by rw [HE.out]; rfl, by repeat (first | exact Below.refl _ _ | (refine Below.alloc ?_ (by simp <;> omega) _) | (refine below_dN ?_ _))⟩
            · have h5 : inR a0.f5 0 5 = false := by simpa using h5
              have HE := Lib.hid (show mIsEdit a0 = false by simp [mIsEdit, h0, h1, h2, h3, h4, h5])
              go_enter Tryz.func114, Tryz.ntmps114
              go_wp2_with (first | (go_at_call 47; refine (spec_in _ _ _ _).mono ?_; rintro e w1 ⟨rfl, rfl⟩))
              go_ret
              exact ⟨by rw [HE.out]; rfl, by repeat (first | exact Below.refl _ _ | (refine Below.alloc ?_ (by simp <;> omega) _) | (refine below_dN ?_ _))⟩
          · have h4 : inR a0.f4 0 999 = false := by simpa using h4
            have HE := Lib.hid (show mIsEdit a0 = false by simp [mIsEdit, h0, h1, h2, h3, h4])
            go_enter Tryz.func114, Tryz.ntmps114
            go_wp2_with (first | (go_at_call 47; refine (spec_in _ _ _ _).mono ?_; rintro e w1 ⟨rfl, rfl⟩))
            go_ret
            exact ⟨by rw [HE.out]; rfl, by repeat (first | exact Below.refl _ _ | (refine Below.alloc ?_ (by simp <;> omega) _) | (refine below_dN ?_ _))⟩
        · have h3 : inR a0.f3 0 9 = false := by simpa using h3
          have HE := Lib.hid (show mIsEdit a0 = false by simp [mIsEdit, h0, h1, h2, h3])
          go_enter Tryz.func114, Tryz.ntmps114
          go_wp2_with (first | (go_at_call 47; refine (spec_in _ _ _ _).mono ?_; rintro e w1 ⟨rfl, rfl⟩))
          go_ret
          exact ⟨by rw [HE.out]; rfl, by repeat (first | exact Below.refl _ _ | (refine Below.alloc ?_ (by simp <;> omega) _) | (refine below_dN ?_ _))⟩
      · have h2 : inR a0.f2 0 99 = false := by simpa using h2
        have HE := Lib.hid (show mIsEdit a0 = false by simp [mIsEdit, h0, h1, h2])
        go_enter Tryz.func114, Tryz.ntmps114
        go_wp2_with (first | (go_at_call 47; refine (spec_in _ _ _ _).mono ?_; rintro e w1 ⟨rfl, rfl⟩))
        go_ret
        exact ⟨by rw [HE.out]; rfl, by repeat (first | exact Below.refl _ _ | (refine Below.alloc ?_ (by simp <;> omega) _) | (refine below_dN ?_ _))⟩
    · have h1 : inR a0.f1 1 99 = false := by simpa using h1
      have HE := Lib.hid (show mIsEdit a0 = false by simp [mIsEdit, h0, h1])
      go_enter Tryz.func114, Tryz.ntmps114
      go_wp2_with (first | (go_at_call 47; refine (spec_in _ _ _ _).mono ?_; rintro e w1 ⟨rfl, rfl⟩))
      go_ret
      exact ⟨by rw [HE.out]; rfl, by repeat (first | exact Below.refl _ _ | (refine Below.alloc ?_ (by simp <;> omega) _) | (refine below_dN ?_ _))⟩
  · have h0 : inR a0.f0 1 4 = false := by simpa using h0
    have HE := Lib.hid (show mIsEdit a0 = false by simp [mIsEdit, h0])
    go_enter Tryz.func114, Tryz.ntmps114
    go_wp2_with (first | (go_at_call 47; refine (spec_in _ _ _ _).mono ?_; rintro e w1 ⟨rfl, rfl⟩))
    go_ret
    exact ⟨by rw [HE.out]; rfl, by repeat (first | exact Below.refl _ _ | (refine Below.alloc ?_ (by simp <;> omega) _) | (refine below_dN ?_ _))⟩

/-- What the program makes of an edit: a value of the type of its kind. -/
def changeVal (a0 : TEdit) : Value :=
  if a0.f0 = 1 then .iface 231 (.agg #[.int .i64 a0.f0, .int .i64 a0.f1, .int .i64 a0.f2, .int .i64 a0.f3, .int .i64 a0.f4, .int .i64 a0.f5]) else
  if a0.f0 = 2 then .iface 232 (.agg #[.int .i64 a0.f0, .int .i64 a0.f1, .int .i64 a0.f2, .int .i64 a0.f3, .int .i64 a0.f4, .int .i64 a0.f5]) else
  if a0.f0 = 3 then .iface 233 (.agg #[.int .i64 a0.f0, .int .i64 a0.f1, .int .i64 a0.f2, .int .i64 a0.f3, .int .i64 a0.f4, .int .i64 a0.f5]) else
  if a0.f0 = 4 then .iface 234 (.agg #[.int .i64 a0.f0, .int .i64 a0.f1, .int .i64 a0.f2, .int .i64 a0.f3, .int .i64 a0.f4, .int .i64 a0.f5]) else .nilIface
/-- What kind of edit it is: known just if the kind is one of the four. -/
def ChangeOf (x : TEdit) (w : World) (e : Ending) (w' : World) : Prop := e = .returned (.tuple #[changeVal x, .bool (inR x.f0 1 4)]) ∧ Below w.heap.size w w'
theorem impl_changeOf (a0 : TEdit) (w : World) : Calls Tryz.prog 158 #[.agg #[.int .i64 a0.f0, .int .i64 a0.f1, .int .i64 a0.f2, .int .i64 a0.f3, .int .i64 a0.f4, .int .i64 a0.f5]] w (ChangeOf a0 w) := by
  by_cases h1 : (a0.f0 == 1) = true
  · have e0 : a0.f0 = 1 := by simpa using h1
    have HE := Lib.hid (show inR a0.f0 1 4 = true by rw [inR_true]; omega)
    have HV := Lib.hid (show changeVal a0 = .iface 231 (.agg #[.int .i64 a0.f0, .int .i64 a0.f1, .int .i64 a0.f2, .int .i64 a0.f3, .int .i64 a0.f4, .int .i64 a0.f5]) by unfold changeVal; rw [if_pos e0])
    clear e0
    go_enter Tryz.func158, Tryz.ntmps158
    go_wp2
    go_ret2
    exact ⟨by rw [HE.out, HV.out]; rfl, (Below.refl _ _).alloc (Nat.le_refl _) _⟩
  · have h1 : (a0.f0 == 1) = false := by simpa using h1
    by_cases h2 : (a0.f0 == 2) = true
    · have e0 : a0.f0 = 2 := by simpa using h2
      have HE := Lib.hid (show inR a0.f0 1 4 = true by rw [inR_true]; omega)
      have HV := Lib.hid (show changeVal a0 = .iface 232 (.agg #[.int .i64 a0.f0, .int .i64 a0.f1, .int .i64 a0.f2, .int .i64 a0.f3, .int .i64 a0.f4, .int .i64 a0.f5]) by unfold changeVal; rw [if_neg (by omega)]; rw [if_pos e0])
      clear e0
      go_enter Tryz.func158, Tryz.ntmps158
      go_wp2
      go_ret2
      exact ⟨by rw [HE.out, HV.out]; rfl, (Below.refl _ _).alloc (Nat.le_refl _) _⟩
    · have h2 : (a0.f0 == 2) = false := by simpa using h2
      by_cases h3 : (a0.f0 == 3) = true
      · have e0 : a0.f0 = 3 := by simpa using h3
        have HE := Lib.hid (show inR a0.f0 1 4 = true by rw [inR_true]; omega)
        have HV := Lib.hid (show changeVal a0 = .iface 233 (.agg #[.int .i64 a0.f0, .int .i64 a0.f1, .int .i64 a0.f2, .int .i64 a0.f3, .int .i64 a0.f4, .int .i64 a0.f5]) by unfold changeVal; rw [if_neg (by omega)]; rw [if_neg (by omega)]; rw [if_pos e0])
        clear e0
        go_enter Tryz.func158, Tryz.ntmps158
        go_wp2
        go_ret2
        exact ⟨by rw [HE.out, HV.out]; rfl, (Below.refl _ _).alloc (Nat.le_refl _) _⟩
      · have h3 : (a0.f0 == 3) = false := by simpa using h3
        by_cases h4 : (a0.f0 == 4) = true
        · have e0 : a0.f0 = 4 := by simpa using h4
          have HE := Lib.hid (show inR a0.f0 1 4 = true by rw [inR_true]; omega)
          have HV := Lib.hid (show changeVal a0 = .iface 234 (.agg #[.int .i64 a0.f0, .int .i64 a0.f1, .int .i64 a0.f2, .int .i64 a0.f3, .int .i64 a0.f4, .int .i64 a0.f5]) by unfold changeVal; rw [if_neg (by omega)]; rw [if_neg (by omega)]; rw [if_neg (by omega)]; rw [if_pos e0])
          clear e0
          go_enter Tryz.func158, Tryz.ntmps158
          go_wp2
          go_ret2
          exact ⟨by rw [HE.out, HV.out]; rfl, (Below.refl _ _).alloc (Nat.le_refl _) _⟩
        · have h4 : (a0.f0 == 4) = false := by simpa using h4
          have m1 : a0.f0 ≠ 1 ∧ a0.f0 ≠ 2 ∧ a0.f0 ≠ 3 ∧ a0.f0 ≠ 4 := by simp at h1 h2 h3 h4; exact ⟨h1, h2, h3, h4⟩
          have HE := Lib.hid (show inR a0.f0 1 4 = false by rw [inR_false]; omega)
          have HV := Lib.hid (show changeVal a0 = .nilIface by unfold changeVal; rw [if_neg m1.1, if_neg m1.2.1, if_neg m1.2.2.1, if_neg m1.2.2.2])
          clear m1
          go_enter Tryz.func158, Tryz.ntmps158
          go_wp2
          go_ret2
          exact ⟨by rw [HE.out, HV.out]; rfl, (Below.refl _ _).alloc (Nat.le_refl _) _⟩
theorem impl_IsEdit_any (a0 : TEdit) (w : World) :
    Calls Tryz.prog 159 #[.agg #[.int .i64 a0.f0, .int .i64 a0.f1, .int .i64 a0.f2, .int .i64 a0.f3, .int .i64 a0.f4, .int .i64 a0.f5]] w (Says (.bool (mIsEdit a0)) w) := by
  by_cases h0 : inR a0.f0 1 4 = true
  · skip
    by_cases h1 : inR a0.f1 1 99 = true
    · skip
      by_cases h2 : inR a0.f2 0 99 = true
      · skip
        by_cases h3 : inR a0.f3 0 9 = true
        · skip
          by_cases h4 : inR a0.f4 0 999 = true
          · skip
            by_cases h5 : inR a0.f5 0 5 = true
            · skip
              have HE := Lib.hid (show mIsEdit a0 = true by simp [mIsEdit, h0, h1, h2, h3, h4, h5])
              go_enter Tryz.func159, Tryz.ntmps159
              go_wp2_with (first | (go_at_call 93; refine (impl_in _ _ _ _).mono ?_; rintro e w1 ⟨rfl, rfl⟩) | (go_at_call 158; refine (impl_changeOf a0 _).mono ?_; rintro e w1 ⟨rfl, hb⟩; have hbb := ((Below.refl w.heap.size w).alloc (Nat.le_refl _) _).trans (hb.mono (by simp)); have hcell0 := bcells hb; clear hb))
              go_ret
              exact ⟨by rw [HE.out]; rfl, hbb⟩
            · have h5 : inR a0.f5 0 5 = false := by simpa using h5
              have HE := Lib.hid (show mIsEdit a0 = false by simp [mIsEdit, h0, h1, h2, h3, h4, h5])
              go_enter Tryz.func159, Tryz.ntmps159
              go_wp2_with (first | (go_at_call 93; refine (impl_in _ _ _ _).mono ?_; rintro e w1 ⟨rfl, rfl⟩) | (go_at_call 158; refine (impl_changeOf a0 _).mono ?_; rintro e w1 ⟨rfl, hb⟩; have hbb := ((Below.refl w.heap.size w).alloc (Nat.le_refl _) _).trans (hb.mono (by simp)); have hcell0 := bcells hb; clear hb))
              go_ret
              exact ⟨by rw [HE.out]; rfl, hbb⟩
          · have h4 : inR a0.f4 0 999 = false := by simpa using h4
            have HE := Lib.hid (show mIsEdit a0 = false by simp [mIsEdit, h0, h1, h2, h3, h4])
            go_enter Tryz.func159, Tryz.ntmps159
            go_wp2_with (first | (go_at_call 93; refine (impl_in _ _ _ _).mono ?_; rintro e w1 ⟨rfl, rfl⟩) | (go_at_call 158; refine (impl_changeOf a0 _).mono ?_; rintro e w1 ⟨rfl, hb⟩; have hbb := ((Below.refl w.heap.size w).alloc (Nat.le_refl _) _).trans (hb.mono (by simp)); have hcell0 := bcells hb; clear hb))
            go_ret
            exact ⟨by rw [HE.out]; rfl, hbb⟩
        · have h3 : inR a0.f3 0 9 = false := by simpa using h3
          have HE := Lib.hid (show mIsEdit a0 = false by simp [mIsEdit, h0, h1, h2, h3])
          go_enter Tryz.func159, Tryz.ntmps159
          go_wp2_with (first | (go_at_call 93; refine (impl_in _ _ _ _).mono ?_; rintro e w1 ⟨rfl, rfl⟩) | (go_at_call 158; refine (impl_changeOf a0 _).mono ?_; rintro e w1 ⟨rfl, hb⟩; have hbb := ((Below.refl w.heap.size w).alloc (Nat.le_refl _) _).trans (hb.mono (by simp)); have hcell0 := bcells hb; clear hb))
          go_ret
          exact ⟨by rw [HE.out]; rfl, hbb⟩
      · have h2 : inR a0.f2 0 99 = false := by simpa using h2
        have HE := Lib.hid (show mIsEdit a0 = false by simp [mIsEdit, h0, h1, h2])
        go_enter Tryz.func159, Tryz.ntmps159
        go_wp2_with (first | (go_at_call 93; refine (impl_in _ _ _ _).mono ?_; rintro e w1 ⟨rfl, rfl⟩) | (go_at_call 158; refine (impl_changeOf a0 _).mono ?_; rintro e w1 ⟨rfl, hb⟩; have hbb := ((Below.refl w.heap.size w).alloc (Nat.le_refl _) _).trans (hb.mono (by simp)); have hcell0 := bcells hb; clear hb))
        go_ret
        exact ⟨by rw [HE.out]; rfl, hbb⟩
    · have h1 : inR a0.f1 1 99 = false := by simpa using h1
      have HE := Lib.hid (show mIsEdit a0 = false by simp [mIsEdit, h0, h1])
      go_enter Tryz.func159, Tryz.ntmps159
      go_wp2_with (first | (go_at_call 93; refine (impl_in _ _ _ _).mono ?_; rintro e w1 ⟨rfl, rfl⟩) | (go_at_call 158; refine (impl_changeOf a0 _).mono ?_; rintro e w1 ⟨rfl, hb⟩; have hbb := ((Below.refl w.heap.size w).alloc (Nat.le_refl _) _).trans (hb.mono (by simp)); have hcell0 := bcells hb; clear hb))
      go_ret
      exact ⟨by rw [HE.out]; rfl, hbb⟩
  · have h0 : inR a0.f0 1 4 = false := by simpa using h0
    have HE := Lib.hid (show mIsEdit a0 = false by simp [mIsEdit, h0])
    go_enter Tryz.func159, Tryz.ntmps159
    go_wp2_with (first | (go_at_call 93; refine (impl_in _ _ _ _).mono ?_; rintro e w1 ⟨rfl, rfl⟩) | (go_at_call 158; refine (impl_changeOf a0 _).mono ?_; rintro e w1 ⟨rfl, hb⟩; have hbb := ((Below.refl w.heap.size w).alloc (Nat.le_refl _) _).trans (hb.mono (by simp)); have hcell0 := bcells hb; clear hb))
    go_ret
    exact ⟨by rw [HE.out]; rfl, hbb⟩
theorem impl_IsEdit (a0 : TEdit) (w : World) (H : Hid a0.fit) :
    Calls Tryz.prog 159 #[.agg #[.int .i64 a0.f0, .int .i64 a0.f1, .int .i64 a0.f2, .int .i64 a0.f3, .int .i64 a0.f4, .int .i64 a0.f5]] w (Says (.bool (mIsEdit a0)) w) := impl_IsEdit_any a0 w
end Go.Proofs.YtjgcgipglmhgeaaGreat
namespace Go.Proofs.YtjgcgipglmhgeaaGreat
open Go Go.ChangeShapes Go.WideShapes Go.ChangeAt Go.RowKit Go.Lib
set_option linter.unusedVariables false
set_option linter.unusedSimpArgs false
set_option maxRecDepth 100000
def nAdd (e : TEdit) : TNode := ⟨e.f1, e.f2, e.f3, e.f4, e.f5⟩
def ahead (k : Int) (x : TNode) : Bool := decide (x.f0 < k)
def insAt (l : List TNode) (e : TEdit) : List TNode := l.takeWhile (ahead e.f1) ++ nAdd e :: l.dropWhile (ahead e.f1)
def mayAdd (l : List TNode) (e : TEdit) : Bool := !(idx l e.f1).isSome && (idx l e.f2).isSome && !decide (e.f1 < e.f2) && !decide (16 ≤ l.length)
def mAdd (l : List TNode) (e : TEdit) : Option (List TNode) := if mayAdd l e then some (insAt l e) else none
def stays (l : List TNode) (id : Int) (x : TNode) : Bool := !mUnder l x.f0 id
def mDrop (l : List TNode) (id : Int) : Option (List TNode) := if (idx l id).isSome then some (l.filter (stays l id)) else none
def setText (e : TEdit) (x : TNode) : TNode := ⟨x.f0, x.f1, x.f2, e.f4, e.f5⟩
def setPar (e : TEdit) (x : TNode) : TNode := ⟨x.f0, e.f2, x.f2, x.f3, e.f5⟩
def mText (l : List TNode) (e : TEdit) : Option (List TNode) := if (idx l e.f1).isSome then some (l.modify (mNodeOf l e.f1).toNat (setText e)) else none
def mayMove (l : List TNode) (e : TEdit) : Bool := (idx l e.f1).isSome && (idx l e.f2).isSome && decide (e.f2 < e.f1)
def mMove (l : List TNode) (e : TEdit) : Option (List TNode) := if mayMove l e then some (l.modify (mNodeOf l e.f1).toNat (setPar e)) else none
def mChange (l : List TNode) (e : TEdit) : Option (List TNode) := if e.f0 = 1 then mAdd l e else if e.f0 = 2 then mDrop l e.f1 else if e.f0 = 3 then mText l e else mMove l e
def mEdited (l : List TNode) (e : TEdit) : Option (List TNode) := if mIsDoc l && mIsEdit e then mChange l e else none
def mApply (l : List TNode) (e : TEdit) : List TNode := (mEdited l e).getD l
def mRun (l : List TNode) (es : List TEdit) : List TNode := es.foldl mApply l

theorem ins_at {l : List TNode} {e : TEdit} {k : Nat} (h1 : ∀ x ∈ l.take k, ahead e.f1 x = true) (h2 : ∀ y, l[k]? = some y → ahead e.f1 y = false) : insAt l e = l.take k ++ nAdd e :: l.drop k := by
  have ht : l.takeWhile (ahead e.f1) = l.take k ∧ l.dropWhile (ahead e.f1) = l.drop k := by
    induction k generalizing l with
    | zero =>
      cases l with
      | nil => simp
      | cons x l =>
        have := h2 x rfl
        simp [List.takeWhile, List.dropWhile, this]
    | succ k ih =>
      cases l with
      | nil => simp
      | cons x l =>
        have hx := h1 x (by simp)
        have := ih (l := l) (fun y hy => h1 y (by simp [hy])) (fun y hy => h2 y (by simpa using hy))
        simp [List.takeWhile, List.dropWhile, hx, this.1, this.2]
  unfold insAt
  rw [ht.1, ht.2]
theorem doc_asc {l : List TNode} (h : mIsDoc l = true) : l.Pairwise (fun x y => x.f0 < y.f0) := by
  have hs : ∀ (d k : Nat) (x y : TNode), l[k]? = some x → l[k + (d + 1)]? = some y → x.f0 < y.f0 := by
    intro d
    induction d with
    | zero =>
      intro k x y hx hy
      have hf := doc_at h hy
      unfold fitAt at hf
      rw [if_neg (by omega), Nat.zero_add, Nat.add_sub_cancel, hx, Bool.and_eq_true] at hf
      exact of_decide_eq_true hf.1
    | succ d ih =>
      intro k x y hx hy
      have hlt := (List.getElem?_eq_some_iff.1 hy).1
      have hz : l[k + (d + 1)]? = some (l[k + (d + 1)]'(by omega)) := List.getElem?_eq_getElem (by omega)
      have h1 := ih k x _ hx hz
      have hf := doc_at h hy
      unfold fitAt at hf
      rw [if_neg (by omega), show k + (d + 1 + 1) - 1 = k + (d + 1) by omega, hz, Bool.and_eq_true] at hf
      have := of_decide_eq_true hf.1
      omega
  rw [List.pairwise_iff_getElem]
  intro i j hi hj hij
  obtain ⟨d, rfl⟩ : ∃ d, j = i + (d + 1) := ⟨j - i - 1, by omega⟩
  exact hs d i _ _ (List.getElem?_eq_getElem hi) (List.getElem?_eq_getElem hj)
theorem idx_none {l : List TNode} {id : Int} (h : (idx l id).isSome = false) : ∀ x ∈ l, x.f0 ≠ id := by
  unfold idx at h
  intro x hx e
  have h2 : l.findIdx? (fun x => x.f0 == id) = none := by
    cases hq : l.findIdx? (fun x => x.f0 == id) with
    | none => rfl
    | some v => rw [hq] at h; cases h
  rw [List.findIdx?_eq_none_iff] at h2
  have := h2 x hx
  simp [e] at this
theorem asc_inj {l : List TNode} (h : l.Pairwise (fun x y => x.f0 < y.f0)) {a b : TNode} (ha : a ∈ l) (hb : b ∈ l) (e : a.f0 = b.f0) : a = b := by
  rw [List.pairwise_iff_getElem] at h
  obtain ⟨i, hi, rfl⟩ := List.getElem_of_mem ha
  obtain ⟨j, hj, rfl⟩ := List.getElem_of_mem hb
  rcases Nat.lt_trichotomy i j with hij | rfl | hij
  · have := h i j hi hj hij; omega
  · rfl
  · have := h j i hj hi hij; omega
theorem ins_perm (l : List TNode) (e : TEdit) : (insAt l e).Perm (l ++ [nAdd e]) := by
  unfold insAt
  have h := List.takeWhile_append_dropWhile (p := ahead e.f1) (l := l)
  refine (List.perm_middle).trans ?_
  rw [h]
  exact (List.perm_append_singleton _ _).symm
theorem ins_asc {l : List TNode} {e : TEdit} (h : l.Pairwise (fun x y => x.f0 < y.f0)) : (insAt l e).Pairwise (fun x y => x.f0 ≤ y.f0) := by
  have hd : ∀ (l : List TNode), l.Pairwise (fun x y => x.f0 < y.f0) → ∀ x ∈ l.dropWhile (ahead e.f1), e.f1 ≤ x.f0 := by
    intro l
    induction l with
    | nil => intro _ x hx; cases hx
    | cons y l ih =>
      intro hp x hx
      rw [List.pairwise_cons] at hp
      rw [List.dropWhile_cons] at hx
      split at hx
      · exact ih hp.2 x hx
      · rename_i hn
        have hy : ¬ y.f0 < e.f1 := by simpa [ahead] using hn
        rcases List.mem_cons.1 hx with rfl | hx
        · omega
        · have := hp.1 x hx; omega
  have ht : ∀ x ∈ l.takeWhile (ahead e.f1), x.f0 < e.f1 := by
    intro x hx
    have := List.all_takeWhile (l := l) (p := ahead e.f1)
    rw [List.all_eq_true] at this
    exact of_decide_eq_true (this x hx)
  have hle : l.Pairwise (fun x y => x.f0 ≤ y.f0) := h.imp (fun h => Int.le_of_lt h)
  unfold insAt
  rw [List.pairwise_append]
  refine ⟨hle.sublist (List.takeWhile_sublist _), ?_, ?_⟩
  · rw [List.pairwise_cons]
    exact ⟨fun x hx => hd l h x hx, hle.sublist (List.dropWhile_sublist _)⟩
  · intro a ha b hb
    have h1 := ht a ha
    rcases List.mem_cons.1 hb with rfl | hb
    · exact Int.le_of_lt h1
    · have := hd l h b hb; omega
/-- An ascending arrangement of a document's nodes and a new one is the one list. -/
theorem ins_one {l d : List TNode} {e : TEdit} (hd : mIsDoc l = true) (hn : (idx l e.f1).isSome = false) (hp : d.Perm (l ++ [nAdd e])) (hs : d.Pairwise (fun x y => x.f0 ≤ y.f0)) : d = insAt l e := by
  have ha := doc_asc hd
  have hi := idx_none hn
  refine List.Perm.eq_of_pairwise (le := fun x y => x.f0 ≤ y.f0) (fun a b hA hB h1 h2 => ?_) hs (ins_asc ha) (hp.trans (ins_perm l e).symm)
  have hA := hp.subset hA
  have hB := (ins_perm l e).subset hB
  have he : a.f0 = b.f0 := by omega
  rcases List.mem_append.1 hA with hA | hA <;> rcases List.mem_append.1 hB with hB | hB
  · exact asc_inj ha hA hB he
  · have := hi a hA; simp at hB; subst hB; exact absurd he this
  · have := hi b hB; simp at hA; subst hA; exact absurd he.symm this
  · simp at hA hB; rw [hA, hB]
theorem ins_len (l : List TNode) (e : TEdit) : (insAt l e).length = l.length + 1 := by
  rw [(ins_perm l e).length_eq]; simp
theorem ins_ok {l : List TNode} {e : TEdit} (h : cNodeOk l) (he : TEdit.fit e) : cNodeOk (insAt l e) := by
  intro x hx
  rcases List.mem_append.1 ((ins_perm l e).subset hx) with hx | hx
  · exact h x hx
  · simp at hx; subst hx
    exact ⟨he.2.1, he.2.2.1, he.2.2.2.1, he.2.2.2.2.1, he.2.2.2.2.2⟩
theorem mod_ok {l : List TNode} {k : Nat} {f : TNode → TNode} (h : cNodeOk l) (hf : ∀ x, TNode.fit x → TNode.fit (f x)) : cNodeOk (l.modify k f) := by
  intro x hx
  obtain ⟨i, hi, rfl⟩ := List.getElem_of_mem hx
  rw [List.getElem_modify]
  split
  · exact hf _ (h _ (List.getElem_mem _))
  · exact h _ (List.getElem_mem _)
theorem text_fit {e : TEdit} (he : TEdit.fit e) (x : TNode) (h : TNode.fit x) : TNode.fit (setText e x) := ⟨h.1, h.2.1, h.2.2.1, he.2.2.2.2.1, he.2.2.2.2.2⟩
theorem par_fit {e : TEdit} (he : TEdit.fit e) (x : TNode) (h : TNode.fit x) : TNode.fit (setPar e x) := ⟨h.1, he.2.2.1, h.2.2.1, h.2.2.2.1, he.2.2.2.2.2⟩
theorem edited_ok {l m : List TNode} {e : TEdit} (h : cNodeOk l) (he : TEdit.fit e) (hm : mEdited l e = some m) : cNodeOk m ∧ m.length ≤ 16 := by
  unfold mEdited at hm
  split at hm
  · rename_i hd
    rw [Bool.and_eq_true] at hd
    have hl : l.length ≤ 16 := by
      have := hd.1
      unfold mIsDoc at this
      rw [Bool.and_eq_true] at this
      have := inR_true.1 this.1
      omega
    unfold mChange at hm
    split at hm
    · unfold mAdd at hm
      split at hm
      · rename_i ha
        injection hm with hm; subst hm
        refine ⟨ins_ok h he, ?_⟩
        rw [ins_len]
        have : decide (16 ≤ l.length) = false := by
          unfold mayAdd at ha
          simp only [Bool.and_eq_true, Bool.not_eq_true'] at ha
          exact ha.2
        have := of_decide_eq_false this
        omega
      · cases hm
    · split at hm
      · unfold mDrop at hm
        split at hm
        · injection hm with hm; subst hm
          exact ⟨fun x hx => h x (List.mem_filter.1 hx).1, Nat.le_trans (List.length_filter_le _ _) hl⟩
        · cases hm
      · split at hm
        · unfold mText at hm
          split at hm
          · injection hm with hm; subst hm
            exact ⟨mod_ok h (text_fit he), by simpa using hl⟩
          · cases hm
        · unfold mMove at hm
          split at hm
          · injection hm with hm; subst hm
            exact ⟨mod_ok h (par_fit he), by simpa using hl⟩
          · cases hm
  · cases hm
theorem apply_ok {l : List TNode} {e : TEdit} (h : cNodeOk l) (he : TEdit.fit e) : cNodeOk (mApply l e) := by
  unfold mApply
  cases hm : mEdited l e with
  | none => exact h
  | some m => exact (edited_ok h he hm).1
theorem apply_len {l : List TNode} {e : TEdit} (h : cNodeOk l) (he : TEdit.fit e) {M : Nat} (hM : 16 ≤ M) (hl : l.length ≤ M) : (mApply l e).length ≤ M := by
  unfold mApply
  cases hm : mEdited l e with
  | none => exact hl
  | some m => have := (edited_ok h he hm).2; show m.length ≤ M; omega
theorem run_snoc (l : List TNode) {es : List TEdit} {k : Nat} {e : TEdit} (h : es[k]? = some e) : mRun l (es.take (k + 1)) = mApply (mRun l (es.take k)) e := by
  unfold mRun
  rw [List.take_add_one, h, Option.toList_some, List.foldl_append]; rfl
theorem isEdit_fit {e : TEdit} (h : mIsEdit e = true) : TEdit.fit e := by
  unfold mIsEdit at h
  simp only [Bool.and_eq_true] at h
  obtain ⟨⟨⟨⟨⟨h0, h1⟩, h2⟩, h3⟩, h4⟩, h5⟩ := h
  have := inR_true.1 h0
  have := inR_true.1 h1
  have := inR_true.1 h2
  have := inR_true.1 h3
  have := inR_true.1 h4
  have := inR_true.1 h5
  refine ⟨⟨?_, ?_⟩, ⟨?_, ?_⟩, ⟨?_, ?_⟩, ⟨?_, ?_⟩, ⟨?_, ?_⟩, ⟨?_, ?_⟩⟩ <;> omega
theorem edited_any {l m : List TNode} {e : TEdit} (h : cNodeOk l) (hm : mEdited l e = some m) : cNodeOk m ∧ m.length ≤ 16 := by
  have he : TEdit.fit e := by
    unfold mEdited at hm
    split at hm
    · rename_i hd
      rw [Bool.and_eq_true] at hd
      exact isEdit_fit hd.2
    · cases hm
  exact edited_ok h he hm
theorem apply_fits {l : List TNode} (e : TEdit) (h : cNodeOk l) : cNodeOk (mApply l e) := by
  unfold mApply
  cases hm : mEdited l e with
  | none => exact h
  | some m => exact (edited_any h hm).1
theorem apply_le {l : List TNode} (e : TEdit) (h : cNodeOk l) {M : Nat} (hM : 16 ≤ M) (hl : l.length ≤ M) : (mApply l e).length ≤ M := by
  unfold mApply
  cases hm : mEdited l e with
  | none => exact hl
  | some m => have := (edited_any h hm).2; show m.length ≤ M; omega
theorem run_fits : ∀ (es : List TEdit) {l : List TNode}, cNodeOk l → cNodeOk (mRun l es)
  | [], _, h => h
  | e :: es, l, h => run_fits es (l := mApply l e) (apply_fits e h)
theorem run_le : ∀ (es : List TEdit) {l : List TNode}, cNodeOk l → ∀ {M : Nat}, 16 ≤ M → l.length ≤ M → (mRun l es).length ≤ M
  | [], _, _, _, _, hl => hl
  | e :: es, l, h, M, hM, hl => run_le es (l := mApply l e) (apply_fits e h) hM (apply_le e h hM hl)
theorem run_last (l : List TNode) (es : List TEdit) (e : TEdit) : mRun l (es ++ [e]) = mApply (mRun l es) e := by
  unfold mRun
  rw [List.foldl_append]; rfl
end Go.Proofs.YtjgcgipglmhgeaaGreat
namespace Go.Proofs.YtjgcgipglmhgeaaGreat
open Go Go.ChangeShapes Go.WideShapes Go.ChangeAt Go.RowKit Go.Lib
set_option linter.unusedVariables false
set_option linter.unusedSimpArgs false
set_option maxRecDepth 100000

theorem icNode : (Tryz.prog.info? 70).map (fun i => (i.zero, i.size, i.bytes)) = some (some (.agg #[.int .i64 0, .int .i64 0, .int .i64 0, .int .i64 0, .int .i64 0]), 5, 40) := by kernel_rfl
theorem ocNode (l : List TNode) : ∀ u ∈ cNode l, u.oneCell' = true := by
  intro u hu
  obtain ⟨x, _, hx⟩ := List.mem_flatMap.1 hu
  simp only [TNode.cells, List.mem_cons, List.not_mem_nil, or_false] at hx
  rcases hx with rfl | rfl | rfl | rfl | rfl <;> rfl
set_option maxHeartbeats 4000000 in
theorem clone_Node (l : List TNode) (A : Option Addr) (n c lo hi : Nat) (w : World) (hn : n ≤ 1048576) (hr : Rd w lo hi 5 A n (cNode l)) :
    Calls Tryz.prog 133 #[.slice A n c] w (MakesO 70 5 n (cNode l) w) := by
  have qT : ∀ (w : World) (a : Option Addr) (n c n' c' : Nat), (binOp .eql 31 (.slice a n c) (.slice none n' c')).run Tryz.prog w = .ok (.bool a.isNone) w := fun w a n c n' c' => Lib.run_eql_slice_nil w _ _ a n c n' c' Tryz.underlying31
  rcases A with _ | a
  · have hz : n = 0 := by
      rcases Nat.eq_zero_or_pos n with h0 | h0
      · exact h0
      · obtain ⟨_, _, h, _⟩ := hr.2 h0
        cases h
    subst hz
    have hl : cNode l = [] := List.eq_nil_of_length_eq_zero (by simpa using hr.1)
    rw [hl]
    clear hl hr
    go_enter Tryz.func133, Tryz.ntmps133
    go_wp2
    go_ret
    exact ⟨_, rfl, World.ownsRow_nil w _ _ _, Below.refl _ _⟩
  · have HR := Lib.hid hr
    have HO := Lib.hid (World.ownsRow_lit (e := 70) (size := 5) w #[] 0 (Nat.le_refl _) (by unfold maxLen; omega) rfl)
    clear hr
    go_enter Tryz.func133, Tryz.ntmps133
    go_wp2_with (at_builtin; refine wp_app rfl _ _ _ rfl w.heap.size 70 (.agg #[.int .i64 0, .int .i64 0, .int .i64 0, .int .i64 0, .int .i64 0]) 5 40 Tryz.underlying31 icNode rfl (by decide) _ _ _ rfl HO.out lo hi (some a) n c (cNode l) rfl (HR.out.alloc _) (ocNode l) (by unfold maxLen; omega) (by omega) (by simp) ?_; intro v1 w1 ho1 hb1 _ _; have HO1 := Lib.hid ho1; have HB1 := Lib.hid (((Below.refl w.heap.size w).alloc (Nat.le_refl _) _).trans hb1); clear ho1 hb1)
    go_ret
    exact ⟨_, rfl, by simpa using HO1.out, HB1.out⟩
end Go.Proofs.YtjgcgipglmhgeaaGreat
namespace Go.Proofs.YtjgcgipglmhgeaaGreat
open Go Go.ChangeShapes Go.WideShapes Go.ChangeAt Go.RowKit Go.Lib
set_option linter.unusedVariables false
theorem box_row {w : World} {g : Nat} {t : TypeId} {old cs : Array Value} (h : BoxAt w g t old) : BoxAt (w.setRow g cs) g t cs := setRow_heap w g old cs t (0, 0) h
theorem box_far {w : World} {g k : Nat} {t : TypeId} {old cs : Array Value} (h : BoxAt w k t old) (hne : k ≠ g) : BoxAt (w.setRow g cs) k t old := (setRow_other w g k cs hne).trans h
theorem chg_row (w : World) (g : Nat) (cs : Array Value) : Chg g (g + 1) w (w.setRow g cs) :=
  ⟨rfl, rfl, rfl, by simp, fun k _ hn => setRow_other w g k cs (by omega)⟩
end Go.Proofs.YtjgcgipglmhgeaaGreat
namespace Go.Proofs.YtjgcgipglmhgeaaGreat
open Go Go.ChangeShapes Go.WideShapes Go.ChangeAt Go.RowKit Go.Lib
set_option linter.unusedVariables false
set_option linter.unusedSimpArgs false
set_option maxRecDepth 100000
theorem ap_past {w : World} {g k j : Nat} {t : TypeId} {cs : Array Value} {v : Value} (h : BoxAt w k t cs) (hne : g ≠ k) : BoxAt (w.setCell ⟨g, j, none⟩ v) k t cs :=
  (Below.heap_setCell w ⟨g, j, none⟩ v k (fun e => hne e.symm)).trans h
/-- What a row holds after two stores into one of its nodes. -/
theorem mod_row {l : List TNode} {j a : Nat} {x : TNode} {F : TNode → TNode} {f : Nat → Value} {u v : Value} (hx : l[j]? = some x) (hf : ∀ (t : Nat) (y : Value), (cNode l)[t]? = some y → f t = y) (ha : a < 5)
    (hF : (F x).cells = (x.cells.set a u).set 4 v) (t : Nat) (y : Value) (hy : (cNode (l.modify j F))[t]? = some y) : (if t = j * 5 + 4 then v else if t = j * 5 + a then u else f t) = y := by
  have ht : t < (l.modify j F).length * 5 := by
    have := (List.getElem?_eq_some_iff.1 hy).1
    rwa [flat_len TNode.len] at this
  rw [List.length_modify] at ht
  have hk : t / 5 < (l.modify j F).length := by rw [List.length_modify]; omega
  have hr : t % 5 < ((l.modify j F)[t / 5]).cells.length := by rw [TNode.len]; exact Nat.mod_lt _ (by decide)
  have h2 := flat_get (c := TNode.cells) TNode.len (l.modify j F) (t / 5) (t % 5) _ _ (List.getElem?_eq_getElem hk) (List.getElem?_eq_getElem hr)
  rw [show t / 5 * 5 + t % 5 = t by omega] at h2
  have h3 := hy.symm.trans h2
  injection h3 with h3
  subst h3
  have hkl : t / 5 < l.length := by omega
  by_cases e : j = t / 5
  · have hx2 : l[t / 5] = x := by rw [List.getElem?_eq_getElem (by omega)] at hx; injection hx with hx; rw [← hx]; simp [e]
    have hc : ((l.modify j F)[t / 5]).cells = (x.cells.set a u).set 4 v := by rw [List.getElem_modify, if_pos e, hx2, hF]
    simp only [hc]
    by_cases e4 : t % 5 = 4
    · rw [if_pos (by omega)]
      simp [e4, TNode.cells]
    · rw [if_neg (by omega), List.getElem_set_ne (by omega)]
      by_cases ea : t % 5 = a
      · rw [if_pos (by omega)]
        subst ea
        simp
      · rw [if_neg (by omega), List.getElem_set_ne (by omega)]
        refine hf t _ ?_
        have hr2 : t % 5 < x.cells.length := by rw [TNode.len]; exact Nat.mod_lt _ (by decide)
        have h4 := flat_get (c := TNode.cells) TNode.len l (t / 5) (t % 5) x _ (by rw [List.getElem?_eq_getElem hkl, hx2]) (List.getElem?_eq_getElem hr2)
        rwa [show t / 5 * 5 + t % 5 = t by omega] at h4
  · have hj : j * 5 + a ≠ t ∧ j * 5 + 4 ≠ t := by constructor <;> omega
    rw [if_neg (by omega), if_neg (by omega)]
    have hc : (l.modify j F)[t / 5] = l[t / 5] := by rw [List.getElem_modify, if_neg e]
    simp only [hc]
    refine hf t _ ?_
    have hr2 : t % 5 < (l[t / 5]).cells.length := by rw [TNode.len]; exact Nat.mod_lt _ (by decide)
    have h4 := flat_get (c := TNode.cells) TNode.len l (t / 5) (t % 5) _ _ (List.getElem?_eq_getElem hkl) (List.getElem?_eq_getElem hr2)
    rwa [show t / 5 * 5 + t % 5 = t by omega] at h4
set_option maxHeartbeats 8000000 in
theorem clo_text (e : TEdit) (Be g o N : Nat) (f : Nat → Value) (w : World) (kb : BoxAt w Be 233 #[.int .i64 e.f0, .int .i64 e.f1, .int .i64 e.f2, .int .i64 e.f3, .int .i64 e.f4, .int .i64 e.f5]) (hr : w.rowIs g 70 N f) (ho : o + 4 < N) (hne : g ≠ Be) :
    Calls Tryz.prog 213 #[.pointer (some ⟨g, o, none⟩), .pointer (some ⟨Be, 0, none⟩)] w fun e' w' => e' = .returned (.tuple #[]) ∧ w'.rowIs g 70 N (fun t => if t = o + 4 then .int .i64 e.f5 else if t = o + 3 then .int .i64 e.f4 else f t) ∧ Chg g (g + 1) w w' := by
  have KB := Lib.hid kb
  have GR : w.drew.rowIs g 70 N f := hr.drew
  clear kb hr
  go_enter Tryz.func213, Tryz.ntmps213
  go_wp2_with fail
  refine wp_region_held_drew (S := fun w' => BoxAt w' Be 233 #[.int .i64 e.f0, .int .i64 e.f1, .int .i64 e.f2, .int .i64 e.f3, .int .i64 e.f4, .int .i64 e.f5] ∧ Chg g (g + 1) w w') (by kernel_rfl) ?_ (fun hHeld => ?_)
  · exact ⟨KB.out.drw, (Chg.refl _ _ _).drewN 1⟩
  generalize World.drew w = x0 at hHeld GR ⊢
  refine wpAnyH_take (i := 0) (oi := ⟨some 3, _, _, _, _, _⟩) (v := ?_) rfl (by kernel_rfl) (by kernel_rfl) (by kernel_rfl) (fun _ _ _ h => h) (Or.inl ⟨by kernel_rfl, ?_⟩) hHeld ?_
  rotate_left
  focus (intro W hS; have c0_0 := (hS.1).at_ (j := 0) rfl; have c0_1 := (hS.1).at_ (j := 1) rfl; have c0_2 := (hS.1).at_ (j := 2) rfl; have c0_3 := (hS.1).at_ (j := 3) rfl; have c0_4 := (hS.1).at_ (j := 4) rfl; have c0_5 := (hS.1).at_ (j := 5) rfl; clear hS; first | (go_simp; done) | (go_simp; with_reducible rfl))
  try simp only [Act.put, List.setIfInBounds_toArray, List.set_cons_zero, List.set_cons_succ]
  refine wpAnyH_take (i := 1) (oi := ⟨some 4, _, _, _, _, _⟩) (v := ?_) rfl (by kernel_rfl) (by kernel_rfl) (by kernel_rfl) (fun _ _ _ h => h) (Or.inl ⟨by kernel_rfl, ?_⟩) hHeld ?_
  rotate_left
  focus (intro W hS; have c0_0 := (hS.1).at_ (j := 0) rfl; have c0_1 := (hS.1).at_ (j := 1) rfl; have c0_2 := (hS.1).at_ (j := 2) rfl; have c0_3 := (hS.1).at_ (j := 3) rfl; have c0_4 := (hS.1).at_ (j := 4) rfl; have c0_5 := (hS.1).at_ (j := 5) rfl; clear hS; first | (go_simp; done) | (go_simp; with_reducible rfl))
  try simp only [Act.put, List.setIfInBounds_toArray, List.set_cons_zero, List.set_cons_succ]
  refine wpAnyH_take (i := 2) (oi := ⟨some 5, _, _, _, _, _⟩) (v := ?_) rfl (by kernel_rfl) (by kernel_rfl) (by kernel_rfl) (fun _ _ _ h => h) (Or.inl ⟨by kernel_rfl, ?_⟩) hHeld ?_
  rotate_left
  focus (intro W hS; have c0_0 := (hS.1).at_ (j := 0) rfl; have c0_1 := (hS.1).at_ (j := 1) rfl; have c0_2 := (hS.1).at_ (j := 2) rfl; have c0_3 := (hS.1).at_ (j := 3) rfl; have c0_4 := (hS.1).at_ (j := 4) rfl; have c0_5 := (hS.1).at_ (j := 5) rfl; clear hS; first | (go_simp; done) | (go_simp; with_reducible rfl))
  try simp only [Act.put, List.setIfInBounds_toArray, List.set_cons_zero, List.set_cons_succ]
  refine wpAnyH_take (i := 3) (oi := ⟨some 6, _, _, _, _, _⟩) (v := ?_) rfl (by kernel_rfl) (by kernel_rfl) (by kernel_rfl) (fun _ _ _ h => h) (Or.inl ⟨by kernel_rfl, ?_⟩) hHeld ?_
  rotate_left
  focus (intro W hS; have c0_0 := (hS.1).at_ (j := 0) rfl; have c0_1 := (hS.1).at_ (j := 1) rfl; have c0_2 := (hS.1).at_ (j := 2) rfl; have c0_3 := (hS.1).at_ (j := 3) rfl; have c0_4 := (hS.1).at_ (j := 4) rfl; have c0_5 := (hS.1).at_ (j := 5) rfl; clear hS; first | (go_simp; done) | (go_simp; with_reducible rfl))
  try simp only [Act.put, List.setIfInBounds_toArray, List.set_cons_zero, List.set_cons_succ]
  refine wpAnyH_take (i := 4) (oi := ⟨some 7, _, _, _, _, _⟩) (v := ?_) rfl (by kernel_rfl) (by kernel_rfl) (by kernel_rfl) (fun _ _ _ h => h) (Or.inl ⟨by kernel_rfl, ?_⟩) hHeld ?_
  rotate_left
  focus (intro W hS; have c0_0 := (hS.1).at_ (j := 0) rfl; have c0_1 := (hS.1).at_ (j := 1) rfl; have c0_2 := (hS.1).at_ (j := 2) rfl; have c0_3 := (hS.1).at_ (j := 3) rfl; have c0_4 := (hS.1).at_ (j := 4) rfl; have c0_5 := (hS.1).at_ (j := 5) rfl; clear hS; first | (go_simp; done) | (go_simp; with_reducible rfl))
  try simp only [Act.put, List.setIfInBounds_toArray, List.set_cons_zero, List.set_cons_succ]
  refine wpAnyH_take (i := 5) (oi := ⟨some 8, _, _, _, _, _⟩) (v := ?_) rfl (by kernel_rfl) (by kernel_rfl) (by kernel_rfl) (fun _ _ _ h => h) (Or.inl ⟨by kernel_rfl, ?_⟩) hHeld ?_
  rotate_left
  focus (intro W hS; have c0_0 := (hS.1).at_ (j := 0) rfl; have c0_1 := (hS.1).at_ (j := 1) rfl; have c0_2 := (hS.1).at_ (j := 2) rfl; have c0_3 := (hS.1).at_ (j := 3) rfl; have c0_4 := (hS.1).at_ (j := 4) rfl; have c0_5 := (hS.1).at_ (j := 5) rfl; clear hS; first | (go_simp; done) | (go_simp; with_reducible rfl))
  try simp only [Act.put, List.setIfInBounds_toArray, List.set_cons_zero, List.set_cons_succ]
  refine wpAnyH_take (i := 6) (oi := ⟨some 9, _, _, _, _, _⟩) (v := ?_) rfl (by kernel_rfl) (by kernel_rfl) (by kernel_rfl) (fun _ _ _ h => h) (Or.inl ⟨by kernel_rfl, ?_⟩) hHeld ?_
  rotate_left
  focus (intro W hS; have c0_0 := (hS.1).at_ (j := 0) rfl; have c0_1 := (hS.1).at_ (j := 1) rfl; have c0_2 := (hS.1).at_ (j := 2) rfl; have c0_3 := (hS.1).at_ (j := 3) rfl; have c0_4 := (hS.1).at_ (j := 4) rfl; have c0_5 := (hS.1).at_ (j := 5) rfl; clear hS; first | (go_simp; done) | (go_simp; with_reducible rfl))
  try simp only [Act.put, List.setIfInBounds_toArray, List.set_cons_zero, List.set_cons_succ]
  refine wpAnyH_take (i := 7) (oi := ⟨some 10, _, _, _, _, _⟩) (v := ?_) rfl (by kernel_rfl) (by kernel_rfl) (by kernel_rfl) (fun _ _ _ h => h) (Or.inl ⟨by kernel_rfl, ?_⟩) hHeld ?_
  rotate_left
  focus (intro W hS; have c0_0 := (hS.1).at_ (j := 0) rfl; have c0_1 := (hS.1).at_ (j := 1) rfl; have c0_2 := (hS.1).at_ (j := 2) rfl; have c0_3 := (hS.1).at_ (j := 3) rfl; have c0_4 := (hS.1).at_ (j := 4) rfl; have c0_5 := (hS.1).at_ (j := 5) rfl; clear hS; first | (go_simp; done) | (go_simp; with_reducible rfl))
  try simp only [Act.put, List.setIfInBounds_toArray, List.set_cons_zero, List.set_cons_succ]
  refine wpAnyH_ready (rs := [8]) (by kernel_rfl) (by simp) ?_
  refine AllReadyH.cons (o := ⟨none, _, _, _, _, _⟩) rfl (fun K hK => ?_) AllReadyH.nil
  have hcl := GR.cell (i := o + 3) (by omega)
  have hfr := GR.frozen (o + 3)
  go_simp
  clear hcl hfr
  replace GR := GR.set (o + 3) (.int .i64 e.f4)
  refine hK.out _ _ ⟨ap_past hHeld.1 hne, hHeld.2.set_ (.inl ⟨Nat.le_refl _, Nat.lt_succ_self _⟩) _⟩ (fun hHeld' => ?_)
  clear hK K hHeld
  have hHeld := hHeld'
  clear hHeld'
  try simp only [Act.put, List.setIfInBounds_toArray, List.set_cons_zero, List.set_cons_succ]
  generalize World.setCell x0 ⟨g, o + 3, none⟩ (.int .i64 e.f4) = x1 at hHeld GR ⊢
  refine wpAnyH_take (i := 9) (oi := ⟨some 11, _, _, _, _, _⟩) (v := ?_) rfl (by kernel_rfl) (by kernel_rfl) (by kernel_rfl) (fun _ _ _ h => h) (Or.inl ⟨by kernel_rfl, ?_⟩) hHeld ?_
  rotate_left
  focus (intro W hS; have c0_0 := (hS.1).at_ (j := 0) rfl; have c0_1 := (hS.1).at_ (j := 1) rfl; have c0_2 := (hS.1).at_ (j := 2) rfl; have c0_3 := (hS.1).at_ (j := 3) rfl; have c0_4 := (hS.1).at_ (j := 4) rfl; have c0_5 := (hS.1).at_ (j := 5) rfl; clear hS; first | (go_simp; done) | (go_simp; with_reducible rfl))
  try simp only [Act.put, List.setIfInBounds_toArray, List.set_cons_zero, List.set_cons_succ]
  refine wpAnyH_take (i := 10) (oi := ⟨some 12, _, _, _, _, _⟩) (v := ?_) rfl (by kernel_rfl) (by kernel_rfl) (by kernel_rfl) (fun _ _ _ h => h) (Or.inl ⟨by kernel_rfl, ?_⟩) hHeld ?_
  rotate_left
  focus (intro W hS; have c0_0 := (hS.1).at_ (j := 0) rfl; have c0_1 := (hS.1).at_ (j := 1) rfl; have c0_2 := (hS.1).at_ (j := 2) rfl; have c0_3 := (hS.1).at_ (j := 3) rfl; have c0_4 := (hS.1).at_ (j := 4) rfl; have c0_5 := (hS.1).at_ (j := 5) rfl; clear hS; first | (go_simp; done) | (go_simp; with_reducible rfl))
  try simp only [Act.put, List.setIfInBounds_toArray, List.set_cons_zero, List.set_cons_succ]
  refine wpAnyH_ready (rs := [11]) (by kernel_rfl) (by simp) ?_
  refine AllReadyH.cons (o := ⟨none, _, _, _, _, _⟩) rfl (fun K hK => ?_) AllReadyH.nil
  have hcl := GR.cell (i := o + 4) (by omega)
  have hfr := GR.frozen (o + 4)
  go_simp
  clear hcl hfr
  replace GR := GR.set (o + 4) (.int .i64 e.f5)
  refine hK.out _ _ ⟨ap_past hHeld.1 hne, hHeld.2.set_ (.inl ⟨Nat.le_refl _, Nat.lt_succ_self _⟩) _⟩ (fun hHeld' => ?_)
  clear hK K hHeld
  have hHeld := hHeld'
  clear hHeld'
  try simp only [Act.put, List.setIfInBounds_toArray, List.set_cons_zero, List.set_cons_succ]
  generalize World.setCell x1 ⟨g, o + 4, none⟩ (.int .i64 e.f5) = x2 at hHeld GR ⊢
  refine wpAnyH_done (by kernel_rfl) ?_ _
  go_wp2_with fail
  refine bodyPost_end (v := .tuple #[]) (by simp [results, Tryz.results213, go_sem]) rfl ?_
  exact ⟨rfl, GR, hHeld.2⟩
set_option maxHeartbeats 8000000 in
theorem clo_move (e : TEdit) (Be g o N : Nat) (f : Nat → Value) (w : World) (kb : BoxAt w Be 234 #[.int .i64 e.f0, .int .i64 e.f1, .int .i64 e.f2, .int .i64 e.f3, .int .i64 e.f4, .int .i64 e.f5]) (hr : w.rowIs g 70 N f) (ho : o + 4 < N) (hne : g ≠ Be) :
    Calls Tryz.prog 216 #[.pointer (some ⟨g, o, none⟩), .pointer (some ⟨Be, 0, none⟩)] w fun e' w' => e' = .returned (.tuple #[]) ∧ w'.rowIs g 70 N (fun t => if t = o + 4 then .int .i64 e.f5 else if t = o + 1 then .int .i64 e.f2 else f t) ∧ Chg g (g + 1) w w' := by
  have KB := Lib.hid kb
  have GR : w.drew.rowIs g 70 N f := hr.drew
  clear kb hr
  go_enter Tryz.func216, Tryz.ntmps216
  go_wp2_with fail
  refine wp_region_held_drew (S := fun w' => BoxAt w' Be 234 #[.int .i64 e.f0, .int .i64 e.f1, .int .i64 e.f2, .int .i64 e.f3, .int .i64 e.f4, .int .i64 e.f5] ∧ Chg g (g + 1) w w') (by kernel_rfl) ?_ (fun hHeld => ?_)
  · exact ⟨KB.out.drw, (Chg.refl _ _ _).drewN 1⟩
  generalize World.drew w = x0 at hHeld GR ⊢
  refine wpAnyH_take (i := 0) (oi := ⟨some 3, _, _, _, _, _⟩) (v := ?_) rfl (by kernel_rfl) (by kernel_rfl) (by kernel_rfl) (fun _ _ _ h => h) (Or.inl ⟨by kernel_rfl, ?_⟩) hHeld ?_
  rotate_left
  focus (intro W hS; have c0_0 := (hS.1).at_ (j := 0) rfl; have c0_1 := (hS.1).at_ (j := 1) rfl; have c0_2 := (hS.1).at_ (j := 2) rfl; have c0_3 := (hS.1).at_ (j := 3) rfl; have c0_4 := (hS.1).at_ (j := 4) rfl; have c0_5 := (hS.1).at_ (j := 5) rfl; clear hS; first | (go_simp; done) | (go_simp; with_reducible rfl))
  try simp only [Act.put, List.setIfInBounds_toArray, List.set_cons_zero, List.set_cons_succ]
  refine wpAnyH_take (i := 1) (oi := ⟨some 4, _, _, _, _, _⟩) (v := ?_) rfl (by kernel_rfl) (by kernel_rfl) (by kernel_rfl) (fun _ _ _ h => h) (Or.inl ⟨by kernel_rfl, ?_⟩) hHeld ?_
  rotate_left
  focus (intro W hS; have c0_0 := (hS.1).at_ (j := 0) rfl; have c0_1 := (hS.1).at_ (j := 1) rfl; have c0_2 := (hS.1).at_ (j := 2) rfl; have c0_3 := (hS.1).at_ (j := 3) rfl; have c0_4 := (hS.1).at_ (j := 4) rfl; have c0_5 := (hS.1).at_ (j := 5) rfl; clear hS; first | (go_simp; done) | (go_simp; with_reducible rfl))
  try simp only [Act.put, List.setIfInBounds_toArray, List.set_cons_zero, List.set_cons_succ]
  refine wpAnyH_take (i := 2) (oi := ⟨some 5, _, _, _, _, _⟩) (v := ?_) rfl (by kernel_rfl) (by kernel_rfl) (by kernel_rfl) (fun _ _ _ h => h) (Or.inl ⟨by kernel_rfl, ?_⟩) hHeld ?_
  rotate_left
  focus (intro W hS; have c0_0 := (hS.1).at_ (j := 0) rfl; have c0_1 := (hS.1).at_ (j := 1) rfl; have c0_2 := (hS.1).at_ (j := 2) rfl; have c0_3 := (hS.1).at_ (j := 3) rfl; have c0_4 := (hS.1).at_ (j := 4) rfl; have c0_5 := (hS.1).at_ (j := 5) rfl; clear hS; first | (go_simp; done) | (go_simp; with_reducible rfl))
  try simp only [Act.put, List.setIfInBounds_toArray, List.set_cons_zero, List.set_cons_succ]
  refine wpAnyH_take (i := 3) (oi := ⟨some 6, _, _, _, _, _⟩) (v := ?_) rfl (by kernel_rfl) (by kernel_rfl) (by kernel_rfl) (fun _ _ _ h => h) (Or.inl ⟨by kernel_rfl, ?_⟩) hHeld ?_
  rotate_left
  focus (intro W hS; have c0_0 := (hS.1).at_ (j := 0) rfl; have c0_1 := (hS.1).at_ (j := 1) rfl; have c0_2 := (hS.1).at_ (j := 2) rfl; have c0_3 := (hS.1).at_ (j := 3) rfl; have c0_4 := (hS.1).at_ (j := 4) rfl; have c0_5 := (hS.1).at_ (j := 5) rfl; clear hS; first | (go_simp; done) | (go_simp; with_reducible rfl))
  try simp only [Act.put, List.setIfInBounds_toArray, List.set_cons_zero, List.set_cons_succ]
  refine wpAnyH_take (i := 4) (oi := ⟨some 7, _, _, _, _, _⟩) (v := ?_) rfl (by kernel_rfl) (by kernel_rfl) (by kernel_rfl) (fun _ _ _ h => h) (Or.inl ⟨by kernel_rfl, ?_⟩) hHeld ?_
  rotate_left
  focus (intro W hS; have c0_0 := (hS.1).at_ (j := 0) rfl; have c0_1 := (hS.1).at_ (j := 1) rfl; have c0_2 := (hS.1).at_ (j := 2) rfl; have c0_3 := (hS.1).at_ (j := 3) rfl; have c0_4 := (hS.1).at_ (j := 4) rfl; have c0_5 := (hS.1).at_ (j := 5) rfl; clear hS; first | (go_simp; done) | (go_simp; with_reducible rfl))
  try simp only [Act.put, List.setIfInBounds_toArray, List.set_cons_zero, List.set_cons_succ]
  refine wpAnyH_take (i := 5) (oi := ⟨some 8, _, _, _, _, _⟩) (v := ?_) rfl (by kernel_rfl) (by kernel_rfl) (by kernel_rfl) (fun _ _ _ h => h) (Or.inl ⟨by kernel_rfl, ?_⟩) hHeld ?_
  rotate_left
  focus (intro W hS; have c0_0 := (hS.1).at_ (j := 0) rfl; have c0_1 := (hS.1).at_ (j := 1) rfl; have c0_2 := (hS.1).at_ (j := 2) rfl; have c0_3 := (hS.1).at_ (j := 3) rfl; have c0_4 := (hS.1).at_ (j := 4) rfl; have c0_5 := (hS.1).at_ (j := 5) rfl; clear hS; first | (go_simp; done) | (go_simp; with_reducible rfl))
  try simp only [Act.put, List.setIfInBounds_toArray, List.set_cons_zero, List.set_cons_succ]
  refine wpAnyH_take (i := 6) (oi := ⟨some 9, _, _, _, _, _⟩) (v := ?_) rfl (by kernel_rfl) (by kernel_rfl) (by kernel_rfl) (fun _ _ _ h => h) (Or.inl ⟨by kernel_rfl, ?_⟩) hHeld ?_
  rotate_left
  focus (intro W hS; have c0_0 := (hS.1).at_ (j := 0) rfl; have c0_1 := (hS.1).at_ (j := 1) rfl; have c0_2 := (hS.1).at_ (j := 2) rfl; have c0_3 := (hS.1).at_ (j := 3) rfl; have c0_4 := (hS.1).at_ (j := 4) rfl; have c0_5 := (hS.1).at_ (j := 5) rfl; clear hS; first | (go_simp; done) | (go_simp; with_reducible rfl))
  try simp only [Act.put, List.setIfInBounds_toArray, List.set_cons_zero, List.set_cons_succ]
  refine wpAnyH_take (i := 7) (oi := ⟨some 10, _, _, _, _, _⟩) (v := ?_) rfl (by kernel_rfl) (by kernel_rfl) (by kernel_rfl) (fun _ _ _ h => h) (Or.inl ⟨by kernel_rfl, ?_⟩) hHeld ?_
  rotate_left
  focus (intro W hS; have c0_0 := (hS.1).at_ (j := 0) rfl; have c0_1 := (hS.1).at_ (j := 1) rfl; have c0_2 := (hS.1).at_ (j := 2) rfl; have c0_3 := (hS.1).at_ (j := 3) rfl; have c0_4 := (hS.1).at_ (j := 4) rfl; have c0_5 := (hS.1).at_ (j := 5) rfl; clear hS; first | (go_simp; done) | (go_simp; with_reducible rfl))
  try simp only [Act.put, List.setIfInBounds_toArray, List.set_cons_zero, List.set_cons_succ]
  refine wpAnyH_ready (rs := [8]) (by kernel_rfl) (by simp) ?_
  refine AllReadyH.cons (o := ⟨none, _, _, _, _, _⟩) rfl (fun K hK => ?_) AllReadyH.nil
  have hcl := GR.cell (i := o + 1) (by omega)
  have hfr := GR.frozen (o + 1)
  go_simp
  clear hcl hfr
  replace GR := GR.set (o + 1) (.int .i64 e.f2)
  refine hK.out _ _ ⟨ap_past hHeld.1 hne, hHeld.2.set_ (.inl ⟨Nat.le_refl _, Nat.lt_succ_self _⟩) _⟩ (fun hHeld' => ?_)
  clear hK K hHeld
  have hHeld := hHeld'
  clear hHeld'
  try simp only [Act.put, List.setIfInBounds_toArray, List.set_cons_zero, List.set_cons_succ]
  generalize World.setCell x0 ⟨g, o + 1, none⟩ (.int .i64 e.f2) = x1 at hHeld GR ⊢
  refine wpAnyH_take (i := 9) (oi := ⟨some 11, _, _, _, _, _⟩) (v := ?_) rfl (by kernel_rfl) (by kernel_rfl) (by kernel_rfl) (fun _ _ _ h => h) (Or.inl ⟨by kernel_rfl, ?_⟩) hHeld ?_
  rotate_left
  focus (intro W hS; have c0_0 := (hS.1).at_ (j := 0) rfl; have c0_1 := (hS.1).at_ (j := 1) rfl; have c0_2 := (hS.1).at_ (j := 2) rfl; have c0_3 := (hS.1).at_ (j := 3) rfl; have c0_4 := (hS.1).at_ (j := 4) rfl; have c0_5 := (hS.1).at_ (j := 5) rfl; clear hS; first | (go_simp; done) | (go_simp; with_reducible rfl))
  try simp only [Act.put, List.setIfInBounds_toArray, List.set_cons_zero, List.set_cons_succ]
  refine wpAnyH_take (i := 10) (oi := ⟨some 12, _, _, _, _, _⟩) (v := ?_) rfl (by kernel_rfl) (by kernel_rfl) (by kernel_rfl) (fun _ _ _ h => h) (Or.inl ⟨by kernel_rfl, ?_⟩) hHeld ?_
  rotate_left
  focus (intro W hS; have c0_0 := (hS.1).at_ (j := 0) rfl; have c0_1 := (hS.1).at_ (j := 1) rfl; have c0_2 := (hS.1).at_ (j := 2) rfl; have c0_3 := (hS.1).at_ (j := 3) rfl; have c0_4 := (hS.1).at_ (j := 4) rfl; have c0_5 := (hS.1).at_ (j := 5) rfl; clear hS; first | (go_simp; done) | (go_simp; with_reducible rfl))
  try simp only [Act.put, List.setIfInBounds_toArray, List.set_cons_zero, List.set_cons_succ]
  refine wpAnyH_ready (rs := [11]) (by kernel_rfl) (by simp) ?_
  refine AllReadyH.cons (o := ⟨none, _, _, _, _, _⟩) rfl (fun K hK => ?_) AllReadyH.nil
  have hcl := GR.cell (i := o + 4) (by omega)
  have hfr := GR.frozen (o + 4)
  go_simp
  clear hcl hfr
  replace GR := GR.set (o + 4) (.int .i64 e.f5)
  refine hK.out _ _ ⟨ap_past hHeld.1 hne, hHeld.2.set_ (.inl ⟨Nat.le_refl _, Nat.lt_succ_self _⟩) _⟩ (fun hHeld' => ?_)
  clear hK K hHeld
  have hHeld := hHeld'
  clear hHeld'
  try simp only [Act.put, List.setIfInBounds_toArray, List.set_cons_zero, List.set_cons_succ]
  generalize World.setCell x1 ⟨g, o + 4, none⟩ (.int .i64 e.f5) = x2 at hHeld GR ⊢
  refine wpAnyH_done (by kernel_rfl) ?_ _
  go_wp2_with fail
  refine bodyPost_end (v := .tuple #[]) (by simp [results, Tryz.results216, go_sem]) rfl ?_
  exact ⟨rfl, GR, hHeld.2⟩
end Go.Proofs.YtjgcgipglmhgeaaGreat
namespace Go.Proofs.YtjgcgipglmhgeaaGreat
open Go Go.ChangeShapes Go.WideShapes Go.ChangeAt Go.RowKit Go.Lib
set_option linter.unusedVariables false
set_option linter.unusedSimpArgs false
set_option maxRecDepth 100000
def mCmp (a b : Int) : Int := if a < b then -1 else if b < a then 1 else 0
def mOr (l : List Int) : Int := match l.find? (· != 0) with | some z => z | none => 0
theorem impl_cmp (a b : Int) (w : World) : Calls Tryz.prog 184 #[.int .i64 a, .int .i64 b] w fun e w' => e = .returned (.int .i64 (mCmp a b)) ∧ w = w' := by
  have n1 : (a != a) = false := by simp
  have n2 : (b != b) = false := by simp
  by_cases h1 : a < b
  · have HE := Lib.hid (show mCmp a b = -1 by simp [mCmp, h1])
    go_enter Tryz.func184, Tryz.ntmps184
    go_wp2
    go_ret
    exact ⟨by rw [HE.out]; rfl, rfl⟩
  · by_cases h2 : b < a
    · have HE := Lib.hid (show mCmp a b = 1 by simp [mCmp, h1, h2])
      go_enter Tryz.func184, Tryz.ntmps184
      go_wp2
      go_ret
      exact ⟨by rw [HE.out]; rfl, rfl⟩
    · have HE := Lib.hid (show mCmp a b = 0 by simp [mCmp, h1, h2])
      go_enter Tryz.func184, Tryz.ntmps184
      go_wp2
      go_ret
      exact ⟨by rw [HE.out]; rfl, rfl⟩
theorem mOr_hit {l : List Int} {k : Nat} {z : Int} (h : ∀ x ∈ l.take k, x = 0) (hz : l[k]? = some z) (hne : z ≠ 0) : mOr l = z := by
  unfold mOr
  have : l.find? (· != 0) = some z := by
    have hk : k < l.length := (List.getElem?_eq_some_iff.1 hz).1
    conv => lhs; rw [← List.take_append_drop k l]
    rw [List.find?_append, List.find?_eq_none.2 (fun x hx => by simp [h x hx])]
    have hd : l.drop k = z :: l.drop (k + 1) := by
      rw [List.drop_eq_getElem_cons hk, (List.getElem?_eq_some_iff.1 hz).2]
    have hb : (z != 0) = true := by simp [hne]
    rw [hd, List.find?_cons, hb]
    rfl
  rw [this]
theorem mOr_miss {l : List Int} (h : ∀ x ∈ l, x = 0) : mOr l = 0 := by
  unfold mOr
  rw [List.find?_eq_none.2 (fun x hx => by simp [h x hx])]
theorem zeros_step {l : List Int} {k : Nat} {z : Int} (h : ∀ x ∈ l.take k, x = 0) (hz : l[k]? = some z) (hne : z = 0) : ∀ x ∈ l.take (k + 1), x = 0 := by
  rw [List.take_add_one, hz]
  intro x hx
  rcases List.mem_append.1 hx with h1 | h1
  · exact h x h1
  · simp at h1; rw [h1, hne]
theorem mOr_cons (z : Int) (l : List Int) : mOr (z :: l) = if z = 0 then mOr l else z := by
  unfold mOr
  rw [List.find?_cons]
  by_cases h : z = 0
  · have hb : (z != 0) = false := by simp [h]
    rw [hb, if_pos h]
  · have hb : (z != 0) = true := by simp [h]
    rw [hb, if_neg h]
theorem mCmp_zero (a b : Int) : mCmp a b = 0 ↔ a = b := by unfold mCmp; split <;> (try split) <;> omega
theorem mCmp_neg (a b : Int) : mCmp a b < 0 ↔ a < b := by unfold mCmp; split <;> (try split) <;> omega
theorem mCmp_pos (a b : Int) : 0 < mCmp a b ↔ b < a := by unfold mCmp; split <;> (try split) <;> omega

end Go.Proofs.YtjgcgipglmhgeaaGreat
namespace Go.Proofs.YtjgcgipglmhgeaaGreat
open Go Go.ChangeShapes Go.WideShapes Go.ChangeAt Go.RowKit Go.Lib Go.Sort
set_option linter.unusedVariables false
set_option linter.unusedSimpArgs false
set_option maxRecDepth 100000
instance : Inhabited TNode := ⟨⟨0, 0, 0, 0, 0⟩⟩
theorem putArr_row {w : World} {g m : Nat} {E : TypeId} {f : Nat → Value} (h : w.rowIs g E m f) (d : Array Value) :
    (putRow id w g 0 d).rowIs g E m (fun j => if j < d.size then d[j]! else f j) := by
  obtain ⟨cur, hb, hs, hc⟩ := h
  refine ⟨putCells id 0 d cur, ?_, by simp [putCells, hs], fun i hi => ?_⟩
  · unfold putRow mapBlock
    simp only [Array.getElem?_modify, if_true, hb, Option.map_some, onCells]
  · have := hc i hi
    simp only [putCells, Array.getElem?_mapIdx, this, Option.map_some, Nat.zero_le, true_and, Nat.zero_add, Nat.sub_zero, id]
theorem srt_grow (w : World) (os : Array Obj) : Below w.heap.size w (Sort.grow w os) :=
  ⟨rfl, rfl, rfl, by simp, fun k hk => by simp only [Sort.grow, Array.getElem?_append_left hk]⟩
theorem srt_ahead {w : World} {g m : Nat} {E : TypeId} {f : Nat → Value} (h : w.rowIs g E m f) (n : Nat) : (Sort.ahead w n).rowIs g E m f := h
theorem flat_node (l : List TNode) {j : Nat} {u : Value} (hu : (cNode l)[j]? = some u) : j < l.toArray.size * 5 ∧ (flatK TNode.cells 5 l.toArray)[j]! = u := by
  have hj : j < l.length * 5 := by
    have := (List.getElem?_eq_some_iff.1 hu).1
    rwa [flat_len TNode.len] at this
  have hj' : j < l.toArray.size * 5 := by simpa using hj
  refine ⟨hj', ?_⟩
  have hk : j / 5 < l.length := by omega
  have hr : j % 5 < (l[j / 5]).cells.length := by rw [TNode.len]; exact Nat.mod_lt _ (by decide)
  have h2 := flat_get (c := TNode.cells) TNode.len l (j / 5) (j % 5) l[j / 5] _ (List.getElem?_eq_getElem hk) (List.getElem?_eq_getElem hr)
  have he : j / 5 * 5 + j % 5 = j := by omega
  rw [he] at h2
  have h3 : some u = some (l[j / 5].cells[j % 5]) := hu.symm.trans h2
  injection h3 with h3
  rw [get_flatK _ _ _ _ hj', h3]
  have h4 : l.toArray[j / 5]! = l[j / 5] := by simp [hk]
  rw [h4, List.getElem!_eq_getElem?_getD, List.getElem?_eq_getElem hr]; rfl
theorem holdsN_of_row {w : World} {g cap n : Nat} {E : TypeId} {f : Nat → Value} {l : List TNode} (h : w.rowIs g E (cap * 5) f) (hl : l.length = n) (hn : n ≤ cap) (hf : ∀ j u, (cNode l)[j]? = some u → f j = u) : HoldsK TNode.cells 5 w g 0 l.toArray := by
  intro j hj
  rw [size_flatK] at hj
  have hj' : j < l.length * 5 := by simpa using hj
  refine ⟨?_, h.frozen (0 + j)⟩
  rw [Nat.zero_add, h.cell (by omega)]
  have hlt : j < (cNode l).length := by rw [flat_len TNode.len]; exact hj'
  have hu := List.getElem?_eq_getElem hlt
  rw [hf j _ hu, (flat_node l hu).2]; rfl
theorem ltId_eq (x y : TNode) : ltOf (fun x y : TNode => mCmp x.f0 y.f0) x y = decide (x.f0 < y.f0) := by
  unfold ltOf mCmp
  by_cases h1 : x.f0 < y.f0
  · simp [h1]
  · by_cases h2 : y.f0 < x.f0 <;> simp [h1, h2]
theorem swoId : SWO (ltOf fun x y : TNode => mCmp x.f0 y.f0) where
  irrefl x := by rw [ltId_eq]; simp
  trans x y z h1 h2 := by rw [ltId_eq] at *; simp at *; omega
  ntrans x y z h1 h2 := by rw [ltId_eq] at *; simp at *; omega
theorem clo_sort (x y : TNode) (W : World) : Calls Tryz.prog 183 #[.agg #[.int .i64 x.f0, .int .i64 x.f1, .int .i64 x.f2, .int .i64 x.f3, .int .i64 x.f4], .agg #[.int .i64 y.f0, .int .i64 y.f1, .int .i64 y.f2, .int .i64 y.f3, .int .i64 y.f4]] W fun e w' => e = .returned (.int .i64 (mCmp x.f0 y.f0)) ∧ ∃ q os', w' = Sort.grow (W.drewN q) os' := by
  have hcon := fun W' => impl_cmp x.f0 y.f0 W'
  generalize mCmp x.f0 y.f0 = r at hcon ⊢
  go_enter Tryz.func183, Tryz.ntmps183
  go_wp2_with (go_at_call 184; refine (hcon _).mono ?_; rintro e w' ⟨rfl, rfl⟩)
  go_ret
  exact ⟨rfl, 0, _, by rw [alloc_eq_grow, alloc_eq_grow, grow_grow]; rfl⟩
set_option maxHeartbeats 4000000 in
theorem sortN_fr (l : List TNode) (A : Option Addr) (n c lo hi : Nat) (w : World) (h0 : 0 < n) (hn : n ≤ 1099511627776) (hF : Fr w lo hi 70 5 A n c (cNode l)) :
    Calls Tryz.prog 182 #[.slice A n c, .func (.func 183) #[] #[]] w fun e w' => e = .returned (.tuple #[]) ∧ ∃ d : List TNode, d.Perm l ∧ d.Pairwise (fun x y => x.f0 ≤ y.f0) ∧ Fr w' lo hi 70 5 A n c (cNode d) ∧ Chg lo hi w w' := by
  have hl := rd_len TNode.len hF.rd (by decide)
  obtain ⟨g, cap, rfl, h1, h2, h3, rfl, h5, f, hr, hf⟩ := hF.row h0
  have hH := holdsN_of_row hr hl h3 hf
  have eg : ∀ args w, (callFunc 183 args).run Tryz.prog w = .ok (.enter 183 args) w := enters_of Tryz.func183 (by kernel_rfl) rfl
  have hcl : CmpLays Tryz.prog 183 #[] TNode.cells 5 (fun x y => mCmp x.f0 y.f0) g 0 l.toArray.size w := fun _ _ _ _ x y => clo_sort x y _
  refine (show Calls Tryz.prog 182 #[.slice (some ⟨g, 0, none⟩) n c, .func (.func 183) #[] #[]] w _ from by
    rw [show n = l.toArray.size by simpa using hl.symm]
    exact Tryz.slices_SortFunc 5 (fun w => by kernel_rfl) (fun w => by kernel_rfl) TNode.cells (fun _ => rfl) (fun x v hv => by simp [TNode.cells] at hv; rcases hv with rfl | rfl | rfl | rfl | rfl <;> rfl) (fun x y => mCmp x.f0 y.f0) swoId 183 #[] g 0 c l.toArray w eg hcl hH hr.lt (by simp; omega)).mono ?_
  rintro e w' ⟨rfl, d, k, os, ⟨hp1, hp2, hp3⟩, hs, rfl⟩
  have hds : d.size = l.length := by simpa using hp1
  have hperm : d.toList.Perm l := by
    have h := hp3
    rw [show l.toArray.size = d.size from hp1.symm, Array.extract_size] at h
    rw [show d.size = l.toArray.size from hp1, Array.extract_size] at h
    simpa using h
  have hpw : d.toList.Pairwise (fun x y => x.f0 ≤ y.f0) := by
    rw [List.pairwise_iff_getElem]
    intro i j hi hj hij
    have hi' : i < d.size := by simpa using hi
    have hj' : j < d.size := by simpa using hj
    have h := hs i j (Nat.zero_le _) hij (by simp; omega)
    rw [ltId_eq] at h
    rw [getElem!_pos d i hi', getElem!_pos d j hj'] at h
    simp at h
    simpa using h
  have hr2 := putArr_row (srt_ahead hr k) (flatK TNode.cells 5 d)
  have hc1 : Chg lo hi w (putRow id (Sort.ahead w k) g 0 (flatK TNode.cells 5 d)) := by
    refine ⟨rfl, rfl, rfl, by simp [putRow, mapBlock, Sort.ahead], fun i hi' hn' => ?_⟩
    have e : ¬ g = i := by omega
    simp only [putRow, mapBlock, Array.getElem?_modify, if_neg e, Sort.ahead]
  have hF2 : Fr (putRow id (Sort.ahead w k) g 0 (flatK TNode.cells 5 d)) lo hi 70 5 (some ⟨g, 0, none⟩) n c (cNode d.toList) := by
    refine fr_of_rowcap hr2 h1 h2 h3 h5 (by rw [flat_len TNode.len]; simp; omega) fun j u hu => ?_
    have h := flat_node d.toList hu
    rw [Array.toArray_toList] at h
    rw [if_pos (by rw [size_flatK]; exact h.1)]
    exact h.2
  refine ⟨rfl, d.toList, hperm, hpw, ?_, ?_⟩
  · exact hF2.new (srt_grow _ os)
  · exact hc1.trans (chg_of_new (srt_grow _ os))
end Go.Proofs.YtjgcgipglmhgeaaGreat
namespace Go.Proofs.YtjgcgipglmhgeaaGreat
open Go Go.ChangeShapes Go.WideShapes Go.ChangeAt Go.RowKit Go.Lib
set_option linter.unusedVariables false
set_option linter.unusedSimpArgs false
set_option maxRecDepth 100000
set_option maxHeartbeats 4000000 in
theorem index_N (p : TNode → Bool) (q1 q2 : Value) (l : List TNode) (A : Option Addr) (n c lo hi : Nat) (w : World) (hn : n ≤ 17592186044416)
    (hr : Rd w lo hi 5 A n (cNode l)) (hp : ∀ (W : World) (x : TNode), x ∈ l → Chg lo hi w W → Calls Tryz.prog 206 #[.agg #[.int .i64 x.f0, .int .i64 x.f1, .int .i64 x.f2, .int .i64 x.f3, .int .i64 x.f4], q1, q2] W (Says (.bool (p x)) W)) :
    Calls Tryz.prog 209 #[.slice A n c, .func (.func 206) #[] #[q1, q2]] w (Says (.int .i64 (idxP p l)) w) := by
  have HL := Lib.hid (rd_len TNode.len hr (by decide))
  have HR := Lib.hid hr
  have HP := Lib.hid hp
  clear hr hp
  go_enter Tryz.func209, Tryz.ntmps209
  go_wp2_with fail
  go_loopg [5, 8] n (fun gg _ i wr => ∃ k : Nat, k ≤ n ∧ n - k ≤ gg ∧ i = .int .i64 k ∧ Hid (Below w.heap.size w wr) ∧ Hid ((l.take k).any p = false))
  case atStart => exact ⟨0, Nat.zero_le _, by omega, rfl, Lib.hid (Below.refl _ _), Lib.hid (by simp)⟩
  case round =>
    obtain ⟨k, hk, hg, rfl, HB, HF⟩ := hrel
    by_cases hlt : k < n
    · obtain ⟨b, off, x, rfl, _, _, hz, hc⟩ := rd_elem TNode.len (HR.out.new HB.out) HL.out hlt
      have c0 : wr.cell? ⟨b, off + k * 5, none⟩ = _ := hc 0 _ rfl
      have c1 := hc 1 _ rfl
      have c2 := hc 2 _ rfl
      have c3 := hc 3 _ rfl
      have c4 := hc 4 _ rfl
      have HZ := Lib.hid hz
      have hcall := HP.out wr x (List.mem_of_getElem? HZ.out) (chg_of_new HB.out)
      clear hc hz
      cases hq : p x with
      | true =>
        rw [hq] at hcall
        have HE := Lib.hid (idxP_hit HF.out HZ.out hq)
        clear hq
        go_wp2_with (go_at_call 206; refine hcall.mono ?_; rintro e w1 ⟨rfl, hb1⟩; have HB1 := Lib.hid hb1; clear hb1)
        go_ret
        exact ⟨by rw [HE.out]; rfl, below_trans HB.out HB1.out (Nat.le_refl _)⟩
      | false =>
        rw [hq] at hcall
        have HE := Lib.hid (any_step HF.out HZ.out hq)
        clear hq
        go_wp2_with (go_at_call 206; refine hcall.mono ?_; rintro e w1 ⟨rfl, hb1⟩; have HB1 := Lib.hid hb1; clear hb1)
        go_roundg (n - (k + 1))
        case measure => omega
        case rel => exact ⟨k + 1, by omega, by omega, by go_num, Lib.hid (below_trans HB.out HB1.out (Nat.le_refl _)), HE⟩
    · obtain rfl : k = n := by omega
      have HE := Lib.hid (idxP_miss (by have := HF.out; rw [List.take_of_length_le (by have := HL.out; omega)] at this; exact this))
      go_wp2_with fail
      go_ret
      exact ⟨by rw [HE.out]; rfl, HB.out⟩
def qNotN (p : TNode → Bool) (x : TNode) : Bool := !p x
/-- What the row holds while the elements up to j have been looked at. -/
def DelInvN (q : TNode → Bool) (l : List TNode) (f : Nat → Value) (j : Nat) : Prop :=
  (∀ (t : Nat) (u : Value), (cNode ((l.take j).filter q))[t]? = some u → f t = u) ∧ (∀ (m : Nat) (x : TNode) (t : Nat) (u : Value), j ≤ m → l[m]? = some x → x.cells[t]? = some u → f (m * 5 + t) = u)
theorem filter_allN {q : TNode → Bool} : ∀ {l : List TNode}, (∀ x ∈ l, q x = true) → l.filter q = l := fun h => List.filter_eq_self.2 h
theorem deln_start {p : TNode → Bool} {l : List TNode} {f : Nat → Value} {k : Nat} {x : TNode} (hf : ∀ (t : Nat) (u : Value), (cNode l)[t]? = some u → f t = u) (h : (l.take k).any p = false) (hz : l[k]? = some x) (hx : p x = true) :
    DelInvN (qNotN p) l f (k + 1) ∧ k = ((l.take (k + 1)).filter (qNotN p)).length := by
  have e : (l.take (k + 1)).filter (qNotN p) = l.take k := by
    rw [filter_sn (qNotN p) hz, if_neg (by simp [qNotN, hx])]
    exact filter_allN (fun y hy => by
      have := List.any_eq_false.1 h y hy
      simp [qNotN]; simpa using this)
  have hk : k < l.length := (List.getElem?_eq_some_iff.1 hz).1
  refine ⟨⟨fun t u hu => ?_, fun m y t u hm hy hu => hf _ _ (flat_get TNode.len l m t y u hy hu)⟩, by rw [e, List.length_take]; omega⟩
  rw [e] at hu
  refine hf t u ?_
  have h2 := flat_take (c := TNode.cells) TNode.len l k
  have hu' : ((cNode l).take (k * 5))[t]? = some u := by rw [← hu]; exact congrArg (·[t]?) h2.symm
  rw [List.getElem?_take] at hu'
  split at hu'
  · exact hu'
  · cases hu'
theorem deln_skip {p : TNode → Bool} {l : List TNode} {f : Nat → Value} {j i : Nat} {x : TNode} (h : DelInvN (qNotN p) l f j) (hi : i = ((l.take j).filter (qNotN p)).length) (hz : l[j]? = some x) (hx : p x = true) :
    DelInvN (qNotN p) l f (j + 1) ∧ i = ((l.take (j + 1)).filter (qNotN p)).length := by
  have e : (l.take (j + 1)).filter (qNotN p) = (l.take j).filter (qNotN p) := by rw [filter_sn (qNotN p) hz, if_neg (by simp [qNotN, hx])]
  exact ⟨⟨fun t u hu => h.1 t u (by rw [← e]; exact hu), fun m y t u hm hy hu => h.2 m y t u (by omega) hy hu⟩, by rw [e]; exact hi⟩
theorem deln_put {p : TNode → Bool} {l : List TNode} {f : Nat → Value} {j i : Nat} {x : TNode} (h : DelInvN (qNotN p) l f j) (hi : i = ((l.take j).filter (qNotN p)).length) (hij : i < j) (hz : l[j]? = some x) (hx : p x = false) :
    DelInvN (qNotN p) l (fun t => if i * 5 ≤ t ∧ t < i * 5 + x.cells.length then x.cells[t - i * 5]?.getD default else f t) (j + 1) ∧ i + 1 = ((l.take (j + 1)).filter (qNotN p)).length := by
  have e : (l.take (j + 1)).filter (qNotN p) = (l.take j).filter (qNotN p) ++ [x] := by rw [filter_sn (qNotN p) hz, if_pos (by simp [qNotN, hx])]
  have hl : (cNode ((l.take j).filter (qNotN p))).length = i * 5 := by rw [flat_len TNode.len, ← hi]
  refine ⟨⟨fun t u hu => ?_, fun m y t u hm hy hu => ?_⟩, by rw [e, List.length_append, ← hi]; rfl⟩
  · rw [e, show cNode ((l.take j).filter (qNotN p) ++ [x]) = cNode ((l.take j).filter (qNotN p)) ++ x.cells by simp [cNode]] at hu
    by_cases ht : t < i * 5
    · rw [List.getElem?_append_left (by omega)] at hu
      dsimp only
      rw [if_neg (by omega)]
      exact h.1 t u hu
    · rw [List.getElem?_append_right (by omega), hl] at hu
      have hlt := (List.getElem?_eq_some_iff.1 hu).1
      dsimp only
      rw [if_pos ⟨by omega, by omega⟩, hu]; rfl
  · have ht := (List.getElem?_eq_some_iff.1 hu).1
    rw [TNode.len] at ht
    dsimp only
    rw [if_neg (by rw [TNode.len]; intro hc; omega)]
    exact h.2 m y t u (by omega) hy hu
/-- The slice cut to what is kept, in the row that it had. -/
def DelPN (lo hi : Nat) (xs : List TNode) (w : World) (e : Ending) (w' : World) : Prop :=
  ∃ A c, e = .returned (.slice A xs.length c) ∧ Fr w' lo hi 70 5 A xs.length c (cNode xs) ∧ Chg lo hi w w'
set_option maxHeartbeats 16000000 in
theorem deln_any (p : TNode → Bool) (q1 q2 : Value) (l : List TNode) (A : Option Addr) (n c lo hi : Nat) (w : World) (hn : n ≤ 1048576) (hhi : hi ≤ w.heap.size)
    (hF : Fr w lo hi 70 5 A n c (cNode l)) (hp : ∀ (W : World) (x : TNode), x ∈ l → Chg lo hi w W → Calls Tryz.prog 206 #[.agg #[.int .i64 x.f0, .int .i64 x.f1, .int .i64 x.f2, .int .i64 x.f3, .int .i64 x.f4], q1, q2] W (Says (.bool (p x)) W)) :
    Calls Tryz.prog 208 #[.slice A n c, .func (.func 206) #[] #[q1, q2]] w (DelPN lo hi (l.filter (qNotN p)) w) := by
  have hL := rd_len TNode.len hF.rd (by decide)
  have HI := Lib.hid (index_N p q1 q2 l A n c lo hi w (by omega) hF.rd hp)
  cases hq : l.any p with
  | false =>
    have hN : idxP p l = -1 := idxP_miss hq
    have hA : l.filter (qNotN p) = l := filter_allN (fun y hy => by
      have := List.any_eq_false.1 hq y hy
      simp [qNotN]; simpa using this)
    rw [hA]
    have HL := Lib.hid hL
    have HF := Lib.hid hF
    have HN := Lib.hid hN
    clear hL hF hN hA hq hp
    go_enter Tryz.func208, Tryz.ntmps208
    go_wp2_with fail
    refine HI.out.mono ?_
    rw [HN.out]
    rintro e w1 ⟨rfl, hb1⟩
    have HB := Lib.hid hb1
    clear hb1
    go_wp2_with fail
    go_ret
    exact ⟨A, c, by rw [HL.out]; rfl, by rw [HL.out]; exact HF.out.new HB.out, chg_of_new HB.out⟩
  | true =>
    obtain ⟨k, x0, hk0, hz0, hx0, hpre⟩ : ∃ (k : Nat) (x : TNode), idxP p l = k ∧ l[k]? = some x ∧ p x = true ∧ (l.take k).any p = false := by
      unfold idxP
      cases hf : l.findIdx? p with
      | none =>
        rw [List.findIdx?_eq_none_iff] at hf
        obtain ⟨x, hx, hpx⟩ := List.any_eq_true.1 hq
        have := hf x hx
        rw [hpx] at this; cases this
      | some k =>
        obtain ⟨hk, hpk, hj⟩ := List.findIdx?_eq_some_iff_getElem.1 hf
        refine ⟨k, l[k], rfl, List.getElem?_eq_getElem hk, hpk, ?_⟩
        rw [List.any_eq_false]
        intro y hy
        obtain ⟨i, hi, rfl⟩ := List.mem_take_iff_getElem.1 hy
        have := hj i (by omega)
        simpa using this
    have hkn : k < n := by have := (List.getElem?_eq_some_iff.1 hz0).1; omega
    obtain ⟨g, cap, rfl, hlo, hg, hnc, rfl, hcm, f, hrow, hf⟩ := hF.row (by omega)
    obtain ⟨hI0, hlen0⟩ := deln_start hf hpre hz0 hx0
    have HL := Lib.hid hL
    have HK := Lib.hid hk0
    have HRow := Lib.hid hrow
    have HI0 := Lib.hid hI0
    have HLen0 := Lib.hid hlen0
    have HP := Lib.hid hp
    have hkb : decide ((k : Int) = -1) = false := by rw [decide_eq_false_iff_not]; omega
    have hkb2 : ((k : Int) == -1) = false := by rw [beq_eq_false_iff_ne]; omega
    clear hL hq hk0 hz0 hx0 hpre hrow hf hI0 hlen0 hF hp
    go_enter Tryz.func208, Tryz.ntmps208
    go_wp2_with fail
    refine HI.out.mono ?_
    rw [HK.out]
    rintro e w1 ⟨rfl, hb1⟩
    have HB1 := Lib.hid (chg_of_new (lo := lo) (hi := hi) hb1)
    have HRow1 := Lib.hid (HRow.out.of_block (hb1.block g (by omega)))
    clear hb1 HRow HK
    go_wp2_with fail
    go_loopg [5, 6] n (fun gg si sj wr => ∃ (i j : Nat) (f : Nat → Value), i < j ∧ j ≤ n ∧ n - j ≤ gg ∧ si = .int .i64 i ∧ sj = .int .i64 j ∧ Hid (i = ((l.take j).filter (qNotN p)).length) ∧ Hid (wr.rowIs g 70 (c * 5) f) ∧ Hid (DelInvN (qNotN p) l f j) ∧ Hid (Chg lo hi w wr))
    case atStart => exact ⟨k, k + 1, f, by omega, by omega, by omega, rfl, by go_num, HLen0, HRow1, HI0, HB1⟩
    case round =>
      obtain ⟨i, j, f, hij, hj, hgg, rfl, rfl, HLen, HRow, HInv, HC⟩ := hrel
      by_cases hlt : j < n
      · have hjl : j < l.length := by have := HL.out; omega
        obtain ⟨x, hz⟩ : ∃ x, l[j]? = some x := ⟨_, List.getElem?_eq_getElem hjl⟩
        have hcc : j * 5 + 5 ≤ c * 5 := by omega
        have hci : i * 5 + 5 ≤ c * 5 := by omega
        have c0 : wr.cell? ⟨g, j * 5, none⟩ = some (.int .i64 x.f0) := (HRow.out.cell (by omega)).trans (congrArg some (HInv.out.2 j x 0 _ (Nat.le_refl _) hz rfl))
        have c1 : wr.cell? ⟨g, j * 5 + 1, none⟩ = some (.int .i64 x.f1) := (HRow.out.cell (by omega)).trans (congrArg some (HInv.out.2 j x 1 _ (Nat.le_refl _) hz rfl))
        have c2 : wr.cell? ⟨g, j * 5 + 2, none⟩ = some (.int .i64 x.f2) := (HRow.out.cell (by omega)).trans (congrArg some (HInv.out.2 j x 2 _ (Nat.le_refl _) hz rfl))
        have c3 : wr.cell? ⟨g, j * 5 + 3, none⟩ = some (.int .i64 x.f3) := (HRow.out.cell (by omega)).trans (congrArg some (HInv.out.2 j x 3 _ (Nat.le_refl _) hz rfl))
        have c4 : wr.cell? ⟨g, j * 5 + 4, none⟩ = some (.int .i64 x.f4) := (HRow.out.cell (by omega)).trans (congrArg some (HInv.out.2 j x 4 _ (Nat.le_refl _) hz rfl))
        have hgl : g < wr.heap.size := by have := HC.out.size; omega
        have hgne : g ≠ wr.heap.size := by omega
        have HZ := Lib.hid hz
        have hcall := HP.out (wr.alloc (.cells #[.int .i64 x.f0, .int .i64 x.f1, .int .i64 x.f2, .int .i64 x.f3, .int .i64 x.f4] 70)) x (List.mem_of_getElem? HZ.out) (HC.out.alloc _)
        have HBx := Lib.hid (box_new wr 70 #[.int .i64 x.f0, .int .i64 x.f1, .int .i64 x.f2, .int .i64 x.f3, .int .i64 x.f4])
        clear hz hjl
        cases hq : p x with
        | true =>
          rw [hq] at hcall
          have HS := Lib.hid (deln_skip HInv.out HLen.out HZ.out hq)
          clear hq
          go_wp2_with (go_at_call 206; refine hcall.mono ?_; rintro e w2 ⟨rfl, hb2⟩; have HB2 := Lib.hid hb2; clear hb2)
          have HC2 := Lib.hid ((HC.out.alloc _).trans (chg_of_new HB2.out))
          have HRow2 := Lib.hid ((HRow.out.of_block (Below.heap_alloc wr _ g hgl)).of_block (HB2.out.block g (by simp; omega)))
          go_roundg (n - (j + 1))
          case measure => omega
          case rel => exact ⟨i, j + 1, f, by omega, by omega, by omega, rfl, by go_num, Lib.hid HS.out.2, HRow2, Lib.hid HS.out.1, HC2⟩
        | false =>
          rw [hq] at hcall
          have HS := Lib.hid (deln_put HInv.out HLen.out hij HZ.out hq)
          clear hq 
          go_wp2_with fail
          refine hcall.mono ?_
          rintro e w2 ⟨rfl, hb2⟩
          have HB2 := Lib.hid hb2
          have HC2 := Lib.hid ((HC.out.alloc _).trans (chg_of_new HB2.out))
          have HRow2 := Lib.hid ((HRow.out.of_block (Below.heap_alloc wr _ g hgl)).of_block (HB2.out.block g (by simp; omega)))
          have KBx := HBx.out.new hb2
          have hz2 : wr.heap.size < w2.heap.size := KBx.lt
          have e0 := KBx.at_ (j := 0) rfl
          have e1 := KBx.at_ (j := 1) rfl
          have e2 := KBx.at_ (j := 2) rfl
          have e3 := KBx.at_ (j := 3) rfl
          have e4 := KBx.at_ (j := 4) rfl
          clear hb2 KBx
          have HTh := Lib.hid (there_row HRow2.out hci)
          have HRow3 := Lib.hid (rowIs_setCells [.int .i64 x.f0, .int .i64 x.f1, .int .i64 x.f2, .int .i64 x.f3, .int .i64 x.f4] (i * 5) w2 f HRow2.out)
          have HC3 := Lib.hid (chg_setCells hlo hg [.int .i64 x.f0, .int .i64 x.f1, .int .i64 x.f2, .int .i64 x.f3, .int .i64 x.f4] (i * 5) w2 HC2.out)
          go_wp2_with (refine wpList_store_mid rfl _ (.tmp 33) (.tmp 32) rfl g (i * 5) #[.int .i64 x.f0, .int .i64 x.f1, .int .i64 x.f2, .int .i64 x.f3, .int .i64 x.f4] rfl rfl HTh.out (by kernel_rfl) (by simp [Value.oneCell']) ?_; change wpList _ _ _ _ _ (World.setCells w2 g (i * 5) [.int .i64 x.f0, .int .i64 x.f1, .int .i64 x.f2, .int .i64 x.f3, .int .i64 x.f4]); generalize World.setCells w2 g (i * 5) [.int .i64 x.f0, .int .i64 x.f1, .int .i64 x.f2, .int .i64 x.f3, .int .i64 x.f4] = w3 at HRow3 HC3 ⊢)
          go_roundg (n - (j + 1))
          case measure => omega
          case rel => exact ⟨i + 1, j + 1, _, by omega, by omega, by omega, by go_num, by go_num, Lib.hid HS.out.2, HRow3, Lib.hid HS.out.1, HC3⟩
      · obtain rfl : j = n := by omega
        have hLn : (l.take j).filter (qNotN p) = l.filter (qNotN p) := by rw [List.take_of_length_le (by have := HL.out; omega)]
        have hil : i = (l.filter (qNotN p)).length := by rw [← hLn]; exact HLen.out
        have hI1 := HInv.out.1
        rw [hLn] at hI1
        have hcl : ∀ ty, (Builtin.clear_ #[31] ty #[.slice (some ⟨g, i * 5, none⟩) (j - i) (c - i)]).run Tryz.prog wr = .ok (.tuple #[]) (wr.setCells g (i * 5) (Builtin.zeroCells (Value.agg #[.int .i64 0, .int .i64 0, .int .i64 0, .int .i64 0, .int .i64 0]).cells (j - i)).toList) := fun ty =>
          run_clear_rows wr _ _ ty (.agg #[.int .i64 0, .int .i64 0, .int .i64 0, .int .i64 0, .int .i64 0]) 5 Tryz.underlying31 Tryz.zeroValue70 rfl g (i * 5) (j - i) (c - i) (by omega)
            (fun t ht => by rw [HRow.out.cell (by omega)]; rfl) (fun t _ => HRow.out.frozen _) (by
              intro v hv
              simp only [Builtin.zeroCells, Array.toList_map, List.mem_map, Array.toList_range, List.mem_range] at hv
              obtain ⟨t, ht, rfl⟩ := hv
              change ((#[.int .i64 0, .int .i64 0, .int .i64 0, .int .i64 0, .int .i64 0] : Array Value)[t % 5]!).oneCell' = true
              have hlt : t % 5 < 5 := Nat.mod_lt _ (by decide)
              generalize t % 5 = r at hlt ⊢
              obtain rfl | rfl | rfl | rfl | rfl : r = 0 ∨ r = 1 ∨ r = 2 ∨ r = 3 ∨ r = 4 := by omega
              all_goals rfl)
        have hzl : (Builtin.zeroCells (Value.agg #[.int .i64 0, .int .i64 0, .int .i64 0, .int .i64 0, .int .i64 0]).cells (j - i)).toList.length = (j - i) * 5 := by simp [Builtin.zeroCells, Value.cells]
        generalize (Builtin.zeroCells (Value.agg #[.int .i64 0, .int .i64 0, .int .i64 0, .int .i64 0, .int .i64 0]).cells (j - i)).toList = zs at hcl hzl
        have HRowZ := Lib.hid (rowIs_setCells zs (i * 5) wr f HRow.out)
        have HCz := Lib.hid (chg_setCells hlo hg zs (i * 5) wr HC.out)
        have HFr := Lib.hid (fr_of_rowcap (lo := lo) (hi := hi) (n := (l.filter (qNotN p)).length) (xs := cNode (l.filter (qNotN p))) HRowZ.out hlo hg (by omega) hcm (flat_len TNode.len _) (fun t u hu => by
          have hlt := (List.getElem?_eq_some_iff.1 hu).1
          rw [flat_len TNode.len, ← hil] at hlt
          rw [if_neg (by omega)]
          exact hI1 t u hu))
        generalize wr.setCells g (i * 5) zs = w3 at hcl HRowZ HCz HFr
        have HIl := Lib.hid hil
        have hic : i < c := by omega
        have hic2 : i ≤ c := by omega
        clear hLn hil hI1 hzl HRowZ
        go_wp2_with fail
        go_ret
        exact ⟨_, _, by rw [← HIl.out]; rfl, HFr.out, HCz.out⟩
end Go.Proofs.YtjgcgipglmhgeaaGreat
namespace Go.Proofs.YtjgcgipglmhgeaaGreat
open Go Go.ChangeShapes Go.WideShapes Go.ChangeAt Go.RowKit Go.Lib
set_option linter.unusedVariables false
set_option linter.unusedSimpArgs false
set_option maxRecDepth 100000
section
variable {P : Program} {w : World}
theorem run_app0 (t ty e : TypeId) (z : Value) (size bytes : Nat) (ht : P.underlying t = some (.slice e)) (hinfo : (P.info? e).map (fun i => (i.zero, i.size, i.bytes)) = some (some z, size, bytes))
    (hzs : z.cells.size = size) (hsz : 0 < size) (g : Nat) (hg : BoxAt w g e #[])
    (lo hi : Nat) (A : Option Addr) (m c : Nat) (news : List Value) (hr : Rd w lo hi size A m news) (h1 : ∀ u ∈ news, u.oneCell' = true)
    (h63 : m ≤ maxLen) (hbytes : m * bytes ≤ 140737488355328) :
    ∃ A' c' w', (Builtin.append_ #[t, t] ty #[.slice (some ⟨g, 0, none⟩) 0 0, .slice A m c]).run P w = .ok (.slice A' m c') w' ∧ Fr w' w.heap.size w'.heap.size e size A' m c' news ∧ Below w.heap.size w w' := by
  obtain ⟨i, hi', hz, hsize, hby⟩ := info_parts hinfo
  rcases Nat.eq_zero_or_pos m with h0 | h0
  · subst h0
    have hn : news = [] := List.eq_nil_of_length_eq_zero (by simpa using hr.1)
    subst hn
    rcases A with _ | ad
    · exact ⟨some ⟨g, 0, none⟩, 0, w, by simp [Builtin.append_, run_underlying ht, sizeOf, typeInfo, hi', Builtin.lenOf, Builtin.firstCells, storeCells], ⟨by simp, fun h => absurd h (by omega)⟩, Below.refl _ _⟩
    · have hrun := run_append_room (P := P) w t ty e i ht hi' g 0 0 #[] hg ad 0 c [] (by simp) (fun j u hu => by simp at hu) (fun u hu => by cases hu) (by omega) (by simp)
      refine ⟨_, _, _, hrun, ⟨by simp, fun h => absurd h (by omega)⟩, ⟨rfl, rfl, rfl, by simp, fun k hk => ?_⟩⟩
      by_cases e2 : k = g
      · subst e2
        rw [setRow_heap w k #[] _ e _ hg, hg]
        simp
      · exact setRow_other w g k _ e2
  · obtain ⟨b, off, rfl, _, _, hc⟩ := hr.2 h0
    have hsmall : m ≤ 9223372036854775807 := by simp only [maxLen] at h63; omega
    have hr2 := run_append_grow (P := P) w t ty e i z ht hi' hz ⟨g, 0, none⟩ 0 0 [] (by simp) (fun j u hu => by simp at hu) ⟨b, off, none⟩ m c news (by rw [hr.1, hsize]) (fun j u hu => by rw [add_plain0]; exact hc j u hu) (by omega) (by omega) (growslice_fits (by omega) (by rw [hby]; simpa using hbytes))
    refine ⟨_, _, _, by simpa using hr2, ?_, ?_⟩
    · have hge := grownCap_ge w m 0 e
      have hcm : grownCap w m 0 e ≤ maxLen := grownCap_le_maxLen w m 0 e h63
      refine ⟨hr.1, fun _ => ⟨⟨hr.1, .inr ⟨w.heap.size, _, _, rfl, Nat.le_refl _, heap_alloc_new w.drew _, hge, hcm, ?_, ?_⟩⟩, fun a ha => by injection ha with ha; subst ha; simp⟩⟩
      · simp only [Array.size_append, List.size_toArray, size_zeroCells, hzs, hr.1]
        rw [← hsize, ← Nat.add_mul]
        congr 1
        omega
      · simp only [Array.toList_append]
        rw [← hr.1]
        exact List.take_left
    · exact ⟨rfl, rfl, rfl, by simp, fun k hk => heap_alloc_old w.drew _ hk⟩
/-- .. at a step of a region that draws its order. -/
theorem step_app0 {ops : Array Oper} {o : Oper} {a : Act} {K : Act → World → Prop} {Q : Exit → Act → World → Prop} {E : Prop} (hgd : o.guard = none) (s x : Operand) (t : TypeId)
    (ho : o.op = .call { callee := .builtin .append, args := #[s, x], argTypes := #[t, t] })
    (e : TypeId) (z : Value) (size bytes : Nat) (ht : P.underlying t = some (.slice e)) (hinfo : (P.info? e).map (fun i => (i.zero, i.size, i.bytes)) = some (some z, size, bytes))
    (hzs : z.cells.size = size) (hsz : 0 < size) (g : Nat) (hs : a.eval s = .slice (some ⟨g, 0, none⟩) 0 0) (hg : BoxAt w g e #[])
    (lo hi : Nat) (A : Option Addr) (m c : Nat) (news : List Value) (hx : a.eval x = .slice A m c) (hr : Rd w lo hi size A m news) (h1 : ∀ u ∈ news, u.oneCell' = true)
    (h63 : m ≤ maxLen) (hbytes : m * bytes ≤ 140737488355328)
    (h : ∀ A' c' w', Fr w' w.heap.size w'.heap.size e size A' m c' news → Below w.heap.size w w' → K (a.put o.dst (.slice A' m c')) w') :
    if Region.wanted o (yielded ops a.tmps) = true then Oper.wp P o a w K Q else E := by
  have hw : Region.wanted o (yielded ops a.tmps) = true := by simp [Region.wanted, hgd]
  rw [if_pos hw]
  obtain ⟨A', c', w', hrun, h2, h3⟩ := run_app0 (P := P) t o.type e z size bytes ht hinfo hzs hsz g hg lo hi A m c news hr h1 h63 hbytes
  unfold Oper.wp execOp
  simp only [ho, resolve, invoke, builtin, Sem.run_bind, Sem.run_pure, Result.andThen_ok, List.map_toArray, List.map_cons, List.map_nil, hs, hx, hrun]
  exact h A' c' w' h2 h3
end
end Go.Proofs.YtjgcgipglmhgeaaGreat
namespace Go.Proofs.YtjgcgipglmhgeaaGreat
open Go Go.ChangeShapes Go.WideShapes Go.ChangeAt Go.RowKit Go.Lib
set_option linter.unusedVariables false
set_option linter.unusedSimpArgs false
set_option maxRecDepth 100000
section
variable {P : Program} {w : World}
theorem own_of_box {g base size : Nat} {e : TypeId} (h : BoxAt w g e #[]) (hb : base ≤ g) : w.ownsRow base e size (.slice (some ⟨g, 0, none⟩) 0 0) 0 [] :=
  ⟨by simp, .inr ⟨g, 0, #[], rfl, hb, h, Nat.le_refl _, by unfold maxLen; omega, by simp, by simp⟩⟩
theorem step_appo {ops : Array Oper} {o : Oper} {a : Act} {K : Act → World → Prop} {Q : Exit → Act → World → Prop} {E : Prop} (hgd : o.guard = none) (s x : Operand) (t : TypeId)
    (ho : o.op = .call { callee := .builtin .append, args := #[s, x], argTypes := #[t, t] })
    (base : Nat) (e : TypeId) (z : Value) (size bytes : Nat) (ht : P.underlying t = some (.slice e)) (hinfo : (P.info? e).map (fun i => (i.zero, i.size, i.bytes)) = some (some z, size, bytes))
    (hzs : z.cells.size = size) (hsz : 0 < size) (v : Value) (hs : a.eval s = v) (n : Nat) (xs : List Value) (hown : w.ownsRow base e size v n xs)
    (lo hi : Nat) (A : Option Addr) (m c : Nat) (news : List Value) (hx : a.eval x = .slice A m c) (hr : Rd w lo hi size A m news) (h1 : ∀ u ∈ news, u.oneCell' = true)
    (h63 : n + m ≤ maxLen) (hbytes : (n + m) * bytes ≤ 140737488355328) (hbase : base ≤ w.heap.size)
    (h : ∀ v' w', w'.ownsRow base e size v' (n + m) (xs ++ news) → Below base w w' → w.grownBy w' v.ownBlock → K (a.put o.dst v') w') :
    if Region.wanted o (yielded ops a.tmps) = true then Oper.wp P o a w K Q else E := by
  have hw : Region.wanted o (yielded ops a.tmps) = true := by simp [Region.wanted, hgd]
  rw [if_pos hw]
  obtain ⟨v', w', hrun, h2, h3, _⟩ := run_app (P := P) base t o.type e z size bytes ht hinfo hzs hsz v n xs hown lo hi A m c news hr h1 h63 hbytes hbase
  unfold Oper.wp execOp
  simp only [ho, resolve, invoke, builtin, Sem.run_bind, Sem.run_pure, Result.andThen_ok, List.map_toArray, List.map_cons, List.map_nil, hs, hx, hrun]
  exact h v' w' h2 (below_of_grown hown hbase h3) h3
end
end Go.Proofs.YtjgcgipglmhgeaaGreat
namespace Go.Proofs.YtjgcgipglmhgeaaGreat
open Go Go.ChangeShapes Go.WideShapes Go.ChangeAt Go.RowKit Go.Lib
set_option linter.unusedVariables false
set_option linter.unusedSimpArgs false
set_option maxRecDepth 100000

/-- What a change answers: new nodes, or none. -/
def Gives (r : Option (List TNode)) (w : World) (e : Ending) (w' : World) : Prop :=
  (r = none → e = .returned (.tuple #[.slice none 0 0, .bool false]) ∧ Below w.heap.size w w') ∧
  (∀ m, r = some m → ∃ A c, e = .returned (.tuple #[.slice A m.length c, .bool true]) ∧ Fr w' w.heap.size w'.heap.size 70 5 A m.length c (cNode m) ∧ Below w.heap.size w w')
theorem gives_none {w w' : World} (h : Below w.heap.size w w') : Gives none w (.returned (.tuple #[.slice none 0 0, .bool false])) w' := ⟨fun _ => ⟨rfl, h⟩, fun m hm => by cases hm⟩
theorem gives_some {w w' : World} {m : List TNode} {A : Option Addr} {n c : Nat} (hl : n = m.length) (hF : Fr w' w.heap.size w'.heap.size 70 5 A n c (cNode m)) (h : Below w.heap.size w w') : Gives (some m) w (.returned (.tuple #[.slice A n c, .bool true])) w' := by
  subst hl
  refine ⟨fun h => (by cases h), fun k hk => ?_⟩
  injection hk with hk
  subst hk
  exact ⟨A, c, rfl, hF, h⟩
theorem page_has1 (l : List TNode) (A : Option Addr) (n c B m : Nat) (x : Int) (g : Nat) (w : World) (hM : MapAt w B m (idx l)) (wx : (Lit.int .i64 x).wf = true)
    (h0 : w.cell? ⟨g, 0, none⟩ = some (.int .i64 x)) :
    Calls Tryz.prog 181 #[.agg #[.slice A n c, .map (some B)], .slice (some ⟨g, 0, none⟩) 1 1] w (Says (.bool (idx l x).isSome) w) := by
  have HM := Lib.hid hM
  have WX := Lib.hid wx
  have hgl : g < w.heap.size := World.block_lt_of_cell? w _ h0
  clear hM wx
  go_enter Tryz.func181, Tryz.ntmps181
  go_wp2_with fail
  go_loop [11] (fun i => ∃ k : Nat, k ≤ 1 ∧ i = .int .i64 k ∧ (0 < k → (idx l x).isSome = true)) (fun i => 1 - (intOf i).toNat)
  case atStart => exact ⟨0, by omega, rfl, fun h => absurd h (by omega)⟩
  case round =>
    obtain ⟨k, hk, rfl, hx⟩ := hrel
    have HX := Lib.hid hx
    have HW := Lib.hid ((Below.refl w.heap.size w).alloc (Nat.le_refl _) (.cells #[.slice A n c, .map (some B)] 131))
    have HM2 := Lib.hid (HM.out.alloc_ (.cells #[.slice A n c, .map (some B)] 131))
    clear hx
    have hk3 : k = 0 ∨ k = 1 := by omega
    rcases hk3 with rfl | rfl
    · by_cases e : (idx l x).isSome = true
      · go_wp2_with (at_lookup; refine wp_look_ok rfl _ _ _ rfl Tryz.underlying129 B m _ rfl HM2.out x rfl WX.out ?_)
        go_round
        case rel => exact ⟨1, by omega, by go_num, fun _ => e⟩
        case measure => simp [intOf]
      · have e : (idx l x).isSome = false := by simpa using e
        go_wp2_with (at_lookup; refine wp_look_ok rfl _ _ _ rfl Tryz.underlying129 B m _ rfl HM2.out x rfl WX.out ?_)
        go_ret
        exact ⟨by first | rfl | (rw [e]; rfl), HW.out⟩
    · have ex := HX.out (by omega)
      go_wp2_with fail
      go_ret
      exact ⟨by first | rfl | (rw [ex]; rfl), HW.out⟩
set_option maxHeartbeats 8000000 in
theorem with_text (e : TEdit) (l : List TNode) (A : Option Addr) (n c lo hi B m Be j : Nat) (id : Int) (w : World) (hn : n ≤ 1048576) (hr : Rd w lo hi 5 A n (cNode l)) (hM : MapAt w B m (idx l)) (kb : BoxAt w Be 233 #[.int .i64 e.f0, .int .i64 e.f1, .int .i64 e.f2, .int .i64 e.f3, .int .i64 e.f4, .int .i64 e.f5]) (wid : (Lit.int .i64 id).wf = true) (hj : idx l id = some (j : Int)) :
    Calls Tryz.prog 212 #[.agg #[.slice A n c, .map (some B)], .int .i64 id, .func (.func 213) #[] #[.pointer (some ⟨Be, 0, none⟩)]] w (Makes 70 5 n (cNode (l.modify j (setText e))) w) := by
  have HL := Lib.hid (rd_len TNode.len hr (by decide))
  obtain ⟨i, x, hv, hil, hx, _⟩ := idx_lt hj
  obtain rfl : j = i := by omega
  have hjn : j < n := by have := HL.out; omega
  have gi : (idx l id).getD 0 = (j : Int) := by rw [hj]; rfl
  have HR := Lib.hid (hr.alloc (.cells #[.slice A n c, .map (some B)] 131))
  have HM := Lib.hid (hM.alloc_ (.cells #[.slice A n c, .map (some B)] 131))
  have KB := Lib.hid (kb.alloc_ (.cells #[.slice A n c, .map (some B)] 131))
  have hBe := kb.lt
  have KP := Lib.hid (box_new w 131 #[.slice A n c, .map (some B)])
  have WID := Lib.hid wid
  have HX := Lib.hid hx
  have HB0 := Lib.hid ((Below.refl w.heap.size w).alloc (Nat.le_refl _) (.cells #[.slice A n c, .map (some B)] 131))
  clear hr hM kb wid hx hv hj
  go_enter Tryz.func212, Tryz.ntmps212
  go_wp2_with fail
  refine (clone_Node l A n c lo hi _ hn HR.out).mono ?_
  rintro e1 w1 ⟨v, rfl, ho, hb⟩
  obtain ⟨A', c', rfl, hF⟩ := fr_of_own ho
  obtain ⟨g, cap, rfl, h1, h2, h3, rfl, h5, f, hrow, hf⟩ := hF.row (by omega)
  rw [World.size_alloc] at h1
  have HM1 := Lib.hid (HM.out.new hb)
  have KB1 := Lib.hid (KB.out.new hb)
  have KP1 := KP.out.new hb
  have p0 := KP1.at_ (j := 0) rfl
  have p1 := KP1.at_ (j := 1) rfl
  have HRow := Lib.hid hrow
  have HF := Lib.hid hf
  have HB1 := Lib.hid (below_trans HB0.out hb (by simp))
  have hne : g ≠ Be := by omega
  have hjc : j * 5 + 4 < c' * 5 := by omega
  clear hb hrow hf hF ho KP KP1 HB0 KB HM HR
  go_wp2_with (first | (at_lookup; refine wp_look rfl _ _ _ rfl Tryz.underlying129 B m _ rfl HM1.out id rfl WID.out ?_) | (go_at_call 213; refine (clo_text e Be g (j * 5) (c' * 5) f _ KB1.out HRow.out hjc hne).mono ?_; rintro e2 w2 ⟨rfl, hrow2, hc2⟩; have HRow2 := Lib.hid hrow2; have HC2 := Lib.hid hc2; clear hrow2 hc2))
  go_ret
  refine ⟨_, _, rfl, fr_of_rowcap HRow2.out (by omega) (by have := HC2.out.size; omega) h3 h5 (by rw [flat_len TNode.len, List.length_modify, HL.out]) (mod_row HX.out HF.out (by decide) rfl), ?_⟩
  exact HB1.out.trans (HC2.out.below (.inl (by omega)) (by have := HB1.out.size; omega))
set_option maxHeartbeats 8000000 in
theorem with_move (e : TEdit) (l : List TNode) (A : Option Addr) (n c lo hi B m Be j : Nat) (id : Int) (w : World) (hn : n ≤ 1048576) (hr : Rd w lo hi 5 A n (cNode l)) (hM : MapAt w B m (idx l)) (kb : BoxAt w Be 234 #[.int .i64 e.f0, .int .i64 e.f1, .int .i64 e.f2, .int .i64 e.f3, .int .i64 e.f4, .int .i64 e.f5]) (wid : (Lit.int .i64 id).wf = true) (hj : idx l id = some (j : Int)) :
    Calls Tryz.prog 212 #[.agg #[.slice A n c, .map (some B)], .int .i64 id, .func (.func 216) #[] #[.pointer (some ⟨Be, 0, none⟩)]] w (Makes 70 5 n (cNode (l.modify j (setPar e))) w) := by
  have HL := Lib.hid (rd_len TNode.len hr (by decide))
  obtain ⟨i, x, hv, hil, hx, _⟩ := idx_lt hj
  obtain rfl : j = i := by omega
  have hjn : j < n := by have := HL.out; omega
  have gi : (idx l id).getD 0 = (j : Int) := by rw [hj]; rfl
  have HR := Lib.hid (hr.alloc (.cells #[.slice A n c, .map (some B)] 131))
  have HM := Lib.hid (hM.alloc_ (.cells #[.slice A n c, .map (some B)] 131))
  have KB := Lib.hid (kb.alloc_ (.cells #[.slice A n c, .map (some B)] 131))
  have hBe := kb.lt
  have KP := Lib.hid (box_new w 131 #[.slice A n c, .map (some B)])
  have WID := Lib.hid wid
  have HX := Lib.hid hx
  have HB0 := Lib.hid ((Below.refl w.heap.size w).alloc (Nat.le_refl _) (.cells #[.slice A n c, .map (some B)] 131))
  clear hr hM kb wid hx hv hj
  go_enter Tryz.func212, Tryz.ntmps212
  go_wp2_with fail
  refine (clone_Node l A n c lo hi _ hn HR.out).mono ?_
  rintro e1 w1 ⟨v, rfl, ho, hb⟩
  obtain ⟨A', c', rfl, hF⟩ := fr_of_own ho
  obtain ⟨g, cap, rfl, h1, h2, h3, rfl, h5, f, hrow, hf⟩ := hF.row (by omega)
  rw [World.size_alloc] at h1
  have HM1 := Lib.hid (HM.out.new hb)
  have KB1 := Lib.hid (KB.out.new hb)
  have KP1 := KP.out.new hb
  have p0 := KP1.at_ (j := 0) rfl
  have p1 := KP1.at_ (j := 1) rfl
  have HRow := Lib.hid hrow
  have HF := Lib.hid hf
  have HB1 := Lib.hid (below_trans HB0.out hb (by simp))
  have hne : g ≠ Be := by omega
  have hjc : j * 5 + 4 < c' * 5 := by omega
  clear hb hrow hf hF ho KP KP1 HB0 KB HM HR
  go_wp2_with (first | (at_lookup; refine wp_look rfl _ _ _ rfl Tryz.underlying129 B m _ rfl HM1.out id rfl WID.out ?_) | (go_at_call 216; refine (clo_move e Be g (j * 5) (c' * 5) f _ KB1.out HRow.out hjc hne).mono ?_; rintro e2 w2 ⟨rfl, hrow2, hc2⟩; have HRow2 := Lib.hid hrow2; have HC2 := Lib.hid hc2; clear hrow2 hc2))
  go_ret
  refine ⟨_, _, rfl, fr_of_rowcap HRow2.out (by omega) (by have := HC2.out.size; omega) h3 h5 (by rw [flat_len TNode.len, List.length_modify, HL.out]) (mod_row HX.out HF.out (by decide) rfl), ?_⟩
  exact HB1.out.trans (HC2.out.below (.inl (by omega)) (by have := HB1.out.size; omega))
set_option maxHeartbeats 16000000 in
theorem text_apply (e : TEdit) (l : List TNode) (A : Option Addr) (n c lo hi B m : Nat) (w : World) (hn : n ≤ 16) (hr : Rd w lo hi 5 A n (cNode l)) (hok : Hid (cNodeOk l)) (he : Hid (TEdit.fit e)) (hM : MapAt w B m (idx l)) (hdoc : mIsDoc l = true) :
    Calls Tryz.prog 210 #[.agg #[.int .i64 e.f0, .int .i64 e.f1, .int .i64 e.f2, .int .i64 e.f3, .int .i64 e.f4, .int .i64 e.f5], .agg #[.slice A n c, .map (some B)]] w (Gives (mText l e) w) := by
  have HL := Lib.hid (rd_len TNode.len hr (by decide))
  have HD := Lib.hid hdoc
  have HR0 := Lib.hid (hr.old (by decide))
  have HR := Lib.hid (((hr.old (by decide)).alloc (.cells #[.int .i64 e.f0, .int .i64 e.f1, .int .i64 e.f2, .int .i64 e.f3, .int .i64 e.f4, .int .i64 e.f5] 233)).alloc (.cells #[.slice A n c, .map (some B)] 131))
  have HM := Lib.hid ((hM.alloc_ (.cells #[.int .i64 e.f0, .int .i64 e.f1, .int .i64 e.f2, .int .i64 e.f3, .int .i64 e.f4, .int .i64 e.f5] 233)).alloc_ (.cells #[.slice A n c, .map (some B)] 131))
  have KB := Lib.hid ((box_new w 233 #[.int .i64 e.f0, .int .i64 e.f1, .int .i64 e.f2, .int .i64 e.f3, .int .i64 e.f4, .int .i64 e.f5]).alloc_ (.cells #[.slice A n c, .map (some B)] 131))
  have KP : Hid (BoxAt ((w.alloc (.cells #[.int .i64 e.f0, .int .i64 e.f1, .int .i64 e.f2, .int .i64 e.f3, .int .i64 e.f4, .int .i64 e.f5] 233)).alloc (.cells #[.slice A n c, .map (some B)] 131)) (w.heap.size + 1) 131 #[.slice A n c, .map (some B)]) := Lib.hid (by simpa using box_new (w.alloc (.cells #[.int .i64 e.f0, .int .i64 e.f1, .int .i64 e.f2, .int .i64 e.f3, .int .i64 e.f4, .int .i64 e.f5] 233)) 131 #[.slice A n c, .map (some B)])
  have HB0 := Lib.hid (((Below.refl w.heap.size w).alloc (Nat.le_refl _) (.cells #[.int .i64 e.f0, .int .i64 e.f1, .int .i64 e.f2, .int .i64 e.f3, .int .i64 e.f4, .int .i64 e.f5] 233)).alloc (by simp) (.cells #[.slice A n c, .map (some B)] 131))
  have W1 := Lib.hid (show (Lit.int .i64 e.f1).wf = true from WalkArith.wf_i64 he.out.2.1)
  have W2 := Lib.hid (show (Lit.int .i64 e.f2).wf = true from WalkArith.wf_i64 he.out.2.2.1)
  have KL1 : Hid (BoxAt (((w.alloc (.cells #[.int .i64 e.f0, .int .i64 e.f1, .int .i64 e.f2, .int .i64 e.f3, .int .i64 e.f4, .int .i64 e.f5] 233)).alloc (.cells #[.slice A n c, .map (some B)] 131)).alloc (.cells #[.int .i64 e.f1] 3)) (w.heap.size + 1 + 1) 3 #[.int .i64 e.f1]) := Lib.hid (by simpa using box_new ((w.alloc (.cells #[.int .i64 e.f0, .int .i64 e.f1, .int .i64 e.f2, .int .i64 e.f3, .int .i64 e.f4, .int .i64 e.f5] 233)).alloc (.cells #[.slice A n c, .map (some B)] 131)) 3 #[.int .i64 e.f1])
  have KL2 : Hid (BoxAt (((w.alloc (.cells #[.int .i64 e.f0, .int .i64 e.f1, .int .i64 e.f2, .int .i64 e.f3, .int .i64 e.f4, .int .i64 e.f5] 233)).alloc (.cells #[.slice A n c, .map (some B)] 131)).alloc (.cells #[.int .i64 e.f1, .int .i64 e.f2] 3)) (w.heap.size + 1 + 1) 3 #[.int .i64 e.f1, .int .i64 e.f2]) := Lib.hid (by simpa using box_new ((w.alloc (.cells #[.int .i64 e.f0, .int .i64 e.f1, .int .i64 e.f2, .int .i64 e.f3, .int .i64 e.f4, .int .i64 e.f5] 233)).alloc (.cells #[.slice A n c, .map (some B)] 131)) 3 #[.int .i64 e.f1, .int .i64 e.f2])
  clear hr hM hdoc
  by_cases ht : (idx l e.f1).isSome = true
  · have hh : (idx l e.f1).isSome = true := ht
    obtain ⟨v, hv⟩ := Option.isSome_iff_exists.1 (show (idx l e.f1).isSome = true from ht)
    obtain ⟨j, _, rfl, _, _⟩ := idx_lt hv
    have HE := Lib.hid (show mText l e = some (l.modify j (setText e)) by unfold mText; rw [if_pos ht, mNode_of hv]; rfl)
    have HV := Lib.hid hv
    clear ht hv
    go_enter Tryz.func210, Tryz.ntmps210
    go_wp2_with fail
    refine (page_has1 l A n c B m e.f1 _ _ (HM.out.alloc_ _) W1.out (KL1.out.at_ rfl)).mono ?_
    rintro e1 w1 ⟨rfl, hb⟩
    rw [hh]
    have HB1 := Lib.hid (below_trans (HB0.out.alloc (by simp <;> omega) (.cells #[.int .i64 e.f1] 3)) hb (by simp <;> omega))
    have KB1 := Lib.hid ((KB.out.alloc_ (.cells #[.int .i64 e.f1] 3)).new hb)
    have KP1 := Lib.hid ((KP.out.alloc_ (.cells #[.int .i64 e.f1] 3)).new hb)
    have HM1 := Lib.hid ((HM.out.alloc_ (.cells #[.int .i64 e.f1] 3)).new hb)
    have HR1 := Lib.hid ((HR.out.alloc (.cells #[.int .i64 e.f1] 3)).new hb)
    have hs1 : w.heap.size + 2 < w1.heap.size := by have := hb.size; simp at this; omega
    clear hb KB KP HM HR HB0 KL1 KL2
    have k0 := KB1.out.at_ (j := 0) rfl
    have k1 := KB1.out.at_ (j := 1) rfl
    have k2 := KB1.out.at_ (j := 2) rfl
    have k3 := KB1.out.at_ (j := 3) rfl
    have k4 := KB1.out.at_ (j := 4) rfl
    have k5 := KB1.out.at_ (j := 5) rfl
    have p0 := KP1.out.at_ (j := 0) rfl
    have p1 := KP1.out.at_ (j := 1) rfl
    go_wp2_with fail
    refine (with_text e l A n c 0 w.heap.size B m w.heap.size j e.f1 _ (by omega) HR1.out HM1.out KB1.out W1.out HV.out).mono ?_
    rintro e2 w2 ⟨A2, c2, rfl, hF, hb⟩
    have HF := Lib.hid (hF.mono (lo' := w.heap.size) (by omega) (Nat.le_refl _))
    have HB2 := Lib.hid (below_trans HB1.out hb (by omega))
    clear hF hb
    go_wp2_with fail
    go_ret2
    rw [HE.out]
    exact gives_some (by rw [List.length_modify, HL.out]) HF.out HB2.out
  · have hh : (idx l e.f1).isSome = false := by simpa using ht
    have HE := Lib.hid (show mText l e = none by unfold mText; rw [if_neg ht])
    clear ht
    go_enter Tryz.func210, Tryz.ntmps210
    go_wp2_with fail
    refine (page_has1 l A n c B m e.f1 _ _ (HM.out.alloc_ _) W1.out (KL1.out.at_ rfl)).mono ?_
    rintro e1 w1 ⟨rfl, hb⟩
    rw [hh]
    have HB1 := Lib.hid (below_trans (HB0.out.alloc (by simp <;> omega) (.cells #[.int .i64 e.f1] 3)) hb (by simp <;> omega))
    have KB1 := Lib.hid ((KB.out.alloc_ (.cells #[.int .i64 e.f1] 3)).new hb)
    have KP1 := Lib.hid ((KP.out.alloc_ (.cells #[.int .i64 e.f1] 3)).new hb)
    have HM1 := Lib.hid ((HM.out.alloc_ (.cells #[.int .i64 e.f1] 3)).new hb)
    have HR1 := Lib.hid ((HR.out.alloc (.cells #[.int .i64 e.f1] 3)).new hb)
    have hs1 : w.heap.size + 2 < w1.heap.size := by have := hb.size; simp at this; omega
    clear hb KB KP HM HR HB0 KL1 KL2
    have k0 := KB1.out.at_ (j := 0) rfl
    have k1 := KB1.out.at_ (j := 1) rfl
    have k2 := KB1.out.at_ (j := 2) rfl
    have k3 := KB1.out.at_ (j := 3) rfl
    have k4 := KB1.out.at_ (j := 4) rfl
    have k5 := KB1.out.at_ (j := 5) rfl
    have p0 := KP1.out.at_ (j := 0) rfl
    have p1 := KP1.out.at_ (j := 1) rfl
    go_wp2_with fail
    go_ret2
    rw [HE.out]
    exact gives_none HB1.out
set_option maxHeartbeats 16000000 in
theorem move_apply (e : TEdit) (l : List TNode) (A : Option Addr) (n c lo hi B m : Nat) (w : World) (hn : n ≤ 16) (hr : Rd w lo hi 5 A n (cNode l)) (hok : Hid (cNodeOk l)) (he : Hid (TEdit.fit e)) (hM : MapAt w B m (idx l)) (hdoc : mIsDoc l = true) :
    Calls Tryz.prog 214 #[.agg #[.int .i64 e.f0, .int .i64 e.f1, .int .i64 e.f2, .int .i64 e.f3, .int .i64 e.f4, .int .i64 e.f5], .agg #[.slice A n c, .map (some B)]] w (Gives (mMove l e) w) := by
  have HL := Lib.hid (rd_len TNode.len hr (by decide))
  have HD := Lib.hid hdoc
  have HR0 := Lib.hid (hr.old (by decide))
  have HR := Lib.hid (((hr.old (by decide)).alloc (.cells #[.int .i64 e.f0, .int .i64 e.f1, .int .i64 e.f2, .int .i64 e.f3, .int .i64 e.f4, .int .i64 e.f5] 234)).alloc (.cells #[.slice A n c, .map (some B)] 131))
  have HM := Lib.hid ((hM.alloc_ (.cells #[.int .i64 e.f0, .int .i64 e.f1, .int .i64 e.f2, .int .i64 e.f3, .int .i64 e.f4, .int .i64 e.f5] 234)).alloc_ (.cells #[.slice A n c, .map (some B)] 131))
  have KB := Lib.hid ((box_new w 234 #[.int .i64 e.f0, .int .i64 e.f1, .int .i64 e.f2, .int .i64 e.f3, .int .i64 e.f4, .int .i64 e.f5]).alloc_ (.cells #[.slice A n c, .map (some B)] 131))
  have KP : Hid (BoxAt ((w.alloc (.cells #[.int .i64 e.f0, .int .i64 e.f1, .int .i64 e.f2, .int .i64 e.f3, .int .i64 e.f4, .int .i64 e.f5] 234)).alloc (.cells #[.slice A n c, .map (some B)] 131)) (w.heap.size + 1) 131 #[.slice A n c, .map (some B)]) := Lib.hid (by simpa using box_new (w.alloc (.cells #[.int .i64 e.f0, .int .i64 e.f1, .int .i64 e.f2, .int .i64 e.f3, .int .i64 e.f4, .int .i64 e.f5] 234)) 131 #[.slice A n c, .map (some B)])
  have HB0 := Lib.hid (((Below.refl w.heap.size w).alloc (Nat.le_refl _) (.cells #[.int .i64 e.f0, .int .i64 e.f1, .int .i64 e.f2, .int .i64 e.f3, .int .i64 e.f4, .int .i64 e.f5] 234)).alloc (by simp) (.cells #[.slice A n c, .map (some B)] 131))
  have W1 := Lib.hid (show (Lit.int .i64 e.f1).wf = true from WalkArith.wf_i64 he.out.2.1)
  have W2 := Lib.hid (show (Lit.int .i64 e.f2).wf = true from WalkArith.wf_i64 he.out.2.2.1)
  have KL1 : Hid (BoxAt (((w.alloc (.cells #[.int .i64 e.f0, .int .i64 e.f1, .int .i64 e.f2, .int .i64 e.f3, .int .i64 e.f4, .int .i64 e.f5] 234)).alloc (.cells #[.slice A n c, .map (some B)] 131)).alloc (.cells #[.int .i64 e.f1] 3)) (w.heap.size + 1 + 1) 3 #[.int .i64 e.f1]) := Lib.hid (by simpa using box_new ((w.alloc (.cells #[.int .i64 e.f0, .int .i64 e.f1, .int .i64 e.f2, .int .i64 e.f3, .int .i64 e.f4, .int .i64 e.f5] 234)).alloc (.cells #[.slice A n c, .map (some B)] 131)) 3 #[.int .i64 e.f1])
  have KL2 : Hid (BoxAt (((w.alloc (.cells #[.int .i64 e.f0, .int .i64 e.f1, .int .i64 e.f2, .int .i64 e.f3, .int .i64 e.f4, .int .i64 e.f5] 234)).alloc (.cells #[.slice A n c, .map (some B)] 131)).alloc (.cells #[.int .i64 e.f1, .int .i64 e.f2] 3)) (w.heap.size + 1 + 1) 3 #[.int .i64 e.f1, .int .i64 e.f2]) := Lib.hid (by simpa using box_new ((w.alloc (.cells #[.int .i64 e.f0, .int .i64 e.f1, .int .i64 e.f2, .int .i64 e.f3, .int .i64 e.f4, .int .i64 e.f5] 234)).alloc (.cells #[.slice A n c, .map (some B)] 131)) 3 #[.int .i64 e.f1, .int .i64 e.f2])
  clear hr hM hdoc
  by_cases hh : ((idx l e.f1).isSome && (idx l e.f2).isSome) = true
  · by_cases h3 : e.f2 < e.f1
    · have ht : mayMove l e = true := by unfold mayMove; rw [hh]; simpa using h3
      obtain ⟨v, hv⟩ := Option.isSome_iff_exists.1 (show (idx l e.f1).isSome = true by rw [Bool.and_eq_true] at hh; exact hh.1)
      obtain ⟨j, _, rfl, _, _⟩ := idx_lt hv
      have HE := Lib.hid (show mMove l e = some (l.modify j (setPar e)) by unfold mMove; rw [if_pos ht, mNode_of hv]; rfl)
      have HV := Lib.hid hv
      have g2 : decide (e.f1 ≤ e.f2) = false := by rw [decide_eq_false_iff_not]; omega
      clear ht hv h3
      go_enter Tryz.func214, Tryz.ntmps214
      go_wp2_with fail
      refine (page_has l A n c B m e.f1 e.f2 _ _ (HM.out.alloc_ _) W1.out W2.out (KL2.out.at_ rfl) (KL2.out.at_ rfl)).mono ?_
      rintro e1 w1 ⟨rfl, hb⟩
      rw [hh]
      have HB1 := Lib.hid (below_trans (HB0.out.alloc (by simp <;> omega) (.cells #[.int .i64 e.f1, .int .i64 e.f2] 3)) hb (by simp <;> omega))
      have KB1 := Lib.hid ((KB.out.alloc_ (.cells #[.int .i64 e.f1, .int .i64 e.f2] 3)).new hb)
      have KP1 := Lib.hid ((KP.out.alloc_ (.cells #[.int .i64 e.f1, .int .i64 e.f2] 3)).new hb)
      have HM1 := Lib.hid ((HM.out.alloc_ (.cells #[.int .i64 e.f1, .int .i64 e.f2] 3)).new hb)
      have HR1 := Lib.hid ((HR.out.alloc (.cells #[.int .i64 e.f1, .int .i64 e.f2] 3)).new hb)
      have hs1 : w.heap.size + 2 < w1.heap.size := by have := hb.size; simp at this; omega
      clear hb KB KP HM HR HB0 KL1 KL2
      have k0 := KB1.out.at_ (j := 0) rfl
      have k1 := KB1.out.at_ (j := 1) rfl
      have k2 := KB1.out.at_ (j := 2) rfl
      have k3 := KB1.out.at_ (j := 3) rfl
      have k4 := KB1.out.at_ (j := 4) rfl
      have k5 := KB1.out.at_ (j := 5) rfl
      have p0 := KP1.out.at_ (j := 0) rfl
      have p1 := KP1.out.at_ (j := 1) rfl
      go_wp2_with fail
      refine (with_move e l A n c 0 w.heap.size B m w.heap.size j e.f1 _ (by omega) HR1.out HM1.out KB1.out W1.out HV.out).mono ?_
      rintro e2 w2 ⟨A2, c2, rfl, hF, hb⟩
      have HF := Lib.hid (hF.mono (lo' := w.heap.size) (by omega) (Nat.le_refl _))
      have HB2 := Lib.hid (below_trans HB1.out hb (by omega))
      clear hF hb
      go_wp2_with fail
      go_ret2
      rw [HE.out]
      exact gives_some (by rw [List.length_modify, HL.out]) HF.out HB2.out
    · have HE := Lib.hid (show mMove l e = none by unfold mMove mayMove; rw [if_neg (by simp [h3])])
      have g2 : decide (e.f1 ≤ e.f2) = true := by rw [decide_eq_true_eq]; omega
      clear h3
      go_enter Tryz.func214, Tryz.ntmps214
      go_wp2_with fail
      refine (page_has l A n c B m e.f1 e.f2 _ _ (HM.out.alloc_ _) W1.out W2.out (KL2.out.at_ rfl) (KL2.out.at_ rfl)).mono ?_
      rintro e1 w1 ⟨rfl, hb⟩
      rw [hh]
      have HB1 := Lib.hid (below_trans (HB0.out.alloc (by simp <;> omega) (.cells #[.int .i64 e.f1, .int .i64 e.f2] 3)) hb (by simp <;> omega))
      have KB1 := Lib.hid ((KB.out.alloc_ (.cells #[.int .i64 e.f1, .int .i64 e.f2] 3)).new hb)
      have KP1 := Lib.hid ((KP.out.alloc_ (.cells #[.int .i64 e.f1, .int .i64 e.f2] 3)).new hb)
      have HM1 := Lib.hid ((HM.out.alloc_ (.cells #[.int .i64 e.f1, .int .i64 e.f2] 3)).new hb)
      have HR1 := Lib.hid ((HR.out.alloc (.cells #[.int .i64 e.f1, .int .i64 e.f2] 3)).new hb)
      have hs1 : w.heap.size + 2 < w1.heap.size := by have := hb.size; simp at this; omega
      clear hb KB KP HM HR HB0 KL1 KL2
      have k0 := KB1.out.at_ (j := 0) rfl
      have k1 := KB1.out.at_ (j := 1) rfl
      have k2 := KB1.out.at_ (j := 2) rfl
      have k3 := KB1.out.at_ (j := 3) rfl
      have k4 := KB1.out.at_ (j := 4) rfl
      have k5 := KB1.out.at_ (j := 5) rfl
      have p0 := KP1.out.at_ (j := 0) rfl
      have p1 := KP1.out.at_ (j := 1) rfl
      go_wp2_with fail
      go_ret2
      rw [HE.out]
      exact gives_none HB1.out
  · have hh : ((idx l e.f1).isSome && (idx l e.f2).isSome) = false := by simpa using hh
    have HE := Lib.hid (show mMove l e = none by unfold mMove mayMove; rw [if_neg (by rw [hh]; simp)])
    go_enter Tryz.func214, Tryz.ntmps214
    go_wp2_with fail
    refine (page_has l A n c B m e.f1 e.f2 _ _ (HM.out.alloc_ _) W1.out W2.out (KL2.out.at_ rfl) (KL2.out.at_ rfl)).mono ?_
    rintro e1 w1 ⟨rfl, hb⟩
    rw [hh]
    have HB1 := Lib.hid (below_trans (HB0.out.alloc (by simp <;> omega) (.cells #[.int .i64 e.f1, .int .i64 e.f2] 3)) hb (by simp <;> omega))
    have KB1 := Lib.hid ((KB.out.alloc_ (.cells #[.int .i64 e.f1, .int .i64 e.f2] 3)).new hb)
    have KP1 := Lib.hid ((KP.out.alloc_ (.cells #[.int .i64 e.f1, .int .i64 e.f2] 3)).new hb)
    have HM1 := Lib.hid ((HM.out.alloc_ (.cells #[.int .i64 e.f1, .int .i64 e.f2] 3)).new hb)
    have HR1 := Lib.hid ((HR.out.alloc (.cells #[.int .i64 e.f1, .int .i64 e.f2] 3)).new hb)
    have hs1 : w.heap.size + 2 < w1.heap.size := by have := hb.size; simp at this; omega
    clear hb KB KP HM HR HB0 KL1 KL2
    have k0 := KB1.out.at_ (j := 0) rfl
    have k1 := KB1.out.at_ (j := 1) rfl
    have k2 := KB1.out.at_ (j := 2) rfl
    have k3 := KB1.out.at_ (j := 3) rfl
    have k4 := KB1.out.at_ (j := 4) rfl
    have k5 := KB1.out.at_ (j := 5) rfl
    have p0 := KP1.out.at_ (j := 0) rfl
    have p1 := KP1.out.at_ (j := 1) rfl
    go_wp2_with fail
    go_ret2
    rw [HE.out]
    exact gives_none HB1.out
set_option maxHeartbeats 8000000 in
theorem clo_drop (e : TEdit) (l : List TNode) (A : Option Addr) (n c lo hi B m Be Bp : Nat) (x : TNode) (w : World) (hn : n ≤ 16) (hr : Rd w lo hi 5 A n (cNode l)) (hok : Hid (cNodeOk l)) (hM : MapAt w B m (idx l)) (hdoc : mIsDoc l = true) (kb : BoxAt w Be 232 #[.int .i64 e.f0, .int .i64 e.f1, .int .i64 e.f2, .int .i64 e.f3, .int .i64 e.f4, .int .i64 e.f5]) (kp : BoxAt w Bp 131 #[.slice A n c, .map (some B)])
    (wx : (Lit.int .i64 x.f0).wf = true) (we : (Lit.int .i64 e.f1).wf = true) :
    Calls Tryz.prog 206 #[.agg #[.int .i64 x.f0, .int .i64 x.f1, .int .i64 x.f2, .int .i64 x.f3, .int .i64 x.f4], .pointer (some ⟨Bp, 0, none⟩), .pointer (some ⟨Be, 0, none⟩)] w (Says (.bool (mUnder l x.f0 e.f1)) w) := by
  have HC := Lib.hid (page_under l A n c lo hi B m x.f0 e.f1 (w.alloc (.cells #[.int .i64 x.f0, .int .i64 x.f1, .int .i64 x.f2, .int .i64 x.f3, .int .i64 x.f4] 70)) (by omega) (hr.alloc _) hok (hM.alloc_ _) hdoc wx we)
  have hbl := kb.lt
  have hpl := kp.lt
  have k1 := kb.at_ (j := 1) rfl
  have p0 := kp.at_ (j := 0) rfl
  have p1 := kp.at_ (j := 1) rfl
  clear hr hM kb kp
  generalize mUnder l x.f0 e.f1 = r at HC ⊢
  go_enter Tryz.func206, Tryz.ntmps206
  go_wp2_with fail
  refine HC.out.mono ?_
  rintro e1 w1 ⟨rfl, hb⟩
  have HB := Lib.hid (below_trans ((Below.refl w.heap.size w).alloc (Nat.le_refl _) (.cells #[.int .i64 x.f0, .int .i64 x.f1, .int .i64 x.f2, .int .i64 x.f3, .int .i64 x.f4] 70)) hb (by simp))
  clear hb
  go_wp2_with fail
  go_ret
  exact ⟨rfl, HB.out⟩
set_option maxHeartbeats 16000000 in
theorem drop_apply (e : TEdit) (l : List TNode) (A : Option Addr) (n c lo hi B m : Nat) (w : World) (hn : n ≤ 16) (hr : Rd w lo hi 5 A n (cNode l)) (hok : Hid (cNodeOk l)) (he : Hid (TEdit.fit e)) (hM : MapAt w B m (idx l)) (hdoc : mIsDoc l = true) :
    Calls Tryz.prog 204 #[.agg #[.int .i64 e.f0, .int .i64 e.f1, .int .i64 e.f2, .int .i64 e.f3, .int .i64 e.f4, .int .i64 e.f5], .agg #[.slice A n c, .map (some B)]] w (Gives (mDrop l e.f1) w) := by
  have HL := Lib.hid (rd_len TNode.len hr (by decide))
  have HD := Lib.hid hdoc
  have HR0 := Lib.hid (hr.old (by decide))
  have HR := Lib.hid (((hr.old (by decide)).alloc (.cells #[.int .i64 e.f0, .int .i64 e.f1, .int .i64 e.f2, .int .i64 e.f3, .int .i64 e.f4, .int .i64 e.f5] 232)).alloc (.cells #[.slice A n c, .map (some B)] 131))
  have HM := Lib.hid ((hM.alloc_ (.cells #[.int .i64 e.f0, .int .i64 e.f1, .int .i64 e.f2, .int .i64 e.f3, .int .i64 e.f4, .int .i64 e.f5] 232)).alloc_ (.cells #[.slice A n c, .map (some B)] 131))
  have KB := Lib.hid ((box_new w 232 #[.int .i64 e.f0, .int .i64 e.f1, .int .i64 e.f2, .int .i64 e.f3, .int .i64 e.f4, .int .i64 e.f5]).alloc_ (.cells #[.slice A n c, .map (some B)] 131))
  have KP : Hid (BoxAt ((w.alloc (.cells #[.int .i64 e.f0, .int .i64 e.f1, .int .i64 e.f2, .int .i64 e.f3, .int .i64 e.f4, .int .i64 e.f5] 232)).alloc (.cells #[.slice A n c, .map (some B)] 131)) (w.heap.size + 1) 131 #[.slice A n c, .map (some B)]) := Lib.hid (by simpa using box_new (w.alloc (.cells #[.int .i64 e.f0, .int .i64 e.f1, .int .i64 e.f2, .int .i64 e.f3, .int .i64 e.f4, .int .i64 e.f5] 232)) 131 #[.slice A n c, .map (some B)])
  have HB0 := Lib.hid (((Below.refl w.heap.size w).alloc (Nat.le_refl _) (.cells #[.int .i64 e.f0, .int .i64 e.f1, .int .i64 e.f2, .int .i64 e.f3, .int .i64 e.f4, .int .i64 e.f5] 232)).alloc (by simp) (.cells #[.slice A n c, .map (some B)] 131))
  have W1 := Lib.hid (show (Lit.int .i64 e.f1).wf = true from WalkArith.wf_i64 he.out.2.1)
  have W2 := Lib.hid (show (Lit.int .i64 e.f2).wf = true from WalkArith.wf_i64 he.out.2.2.1)
  have KL1 : Hid (BoxAt (((w.alloc (.cells #[.int .i64 e.f0, .int .i64 e.f1, .int .i64 e.f2, .int .i64 e.f3, .int .i64 e.f4, .int .i64 e.f5] 232)).alloc (.cells #[.slice A n c, .map (some B)] 131)).alloc (.cells #[.int .i64 e.f1] 3)) (w.heap.size + 1 + 1) 3 #[.int .i64 e.f1]) := Lib.hid (by simpa using box_new ((w.alloc (.cells #[.int .i64 e.f0, .int .i64 e.f1, .int .i64 e.f2, .int .i64 e.f3, .int .i64 e.f4, .int .i64 e.f5] 232)).alloc (.cells #[.slice A n c, .map (some B)] 131)) 3 #[.int .i64 e.f1])
  have KL2 : Hid (BoxAt (((w.alloc (.cells #[.int .i64 e.f0, .int .i64 e.f1, .int .i64 e.f2, .int .i64 e.f3, .int .i64 e.f4, .int .i64 e.f5] 232)).alloc (.cells #[.slice A n c, .map (some B)] 131)).alloc (.cells #[.int .i64 e.f1, .int .i64 e.f2] 3)) (w.heap.size + 1 + 1) 3 #[.int .i64 e.f1, .int .i64 e.f2]) := Lib.hid (by simpa using box_new ((w.alloc (.cells #[.int .i64 e.f0, .int .i64 e.f1, .int .i64 e.f2, .int .i64 e.f3, .int .i64 e.f4, .int .i64 e.f5] 232)).alloc (.cells #[.slice A n c, .map (some B)] 131)) 3 #[.int .i64 e.f1, .int .i64 e.f2])
  clear hr hM hdoc
  have hmf : ∀ (fn : Fn) (first cap : Array Value) (w : World), (Instr.makeFunc fn first cap).run Tryz.prog w = .ok (.func fn first cap) w := fun _ _ _ _ => rfl
  by_cases ht : (idx l e.f1).isSome = true
  · have hh := ht
    have HE := Lib.hid (show mDrop l e.f1 = some (l.filter (stays l e.f1)) by unfold mDrop; rw [if_pos ht])
    clear ht
    go_enter Tryz.func204, Tryz.ntmps204
    go_wp2_with fail
    refine (page_has1 l A n c B m e.f1 _ _ (HM.out.alloc_ _) W1.out (KL1.out.at_ rfl)).mono ?_
    rintro e1 w1 ⟨rfl, hb⟩
    rw [hh]
    have HB1 := Lib.hid (below_trans (HB0.out.alloc (by simp <;> omega) (.cells #[.int .i64 e.f1] 3)) hb (by simp <;> omega))
    have KB1 := Lib.hid ((KB.out.alloc_ (.cells #[.int .i64 e.f1] 3)).new hb)
    have KP1 := Lib.hid ((KP.out.alloc_ (.cells #[.int .i64 e.f1] 3)).new hb)
    have HM1 := Lib.hid ((HM.out.alloc_ (.cells #[.int .i64 e.f1] 3)).new hb)
    have HR1 := Lib.hid ((HR.out.alloc (.cells #[.int .i64 e.f1] 3)).new hb)
    have hs1 : w.heap.size + 2 < w1.heap.size := by have := hb.size; simp at this; omega
    clear hb KB KP HM HR HB0 KL1 KL2
    have k0 := KB1.out.at_ (j := 0) rfl
    have k1 := KB1.out.at_ (j := 1) rfl
    have k2 := KB1.out.at_ (j := 2) rfl
    have k3 := KB1.out.at_ (j := 3) rfl
    have k4 := KB1.out.at_ (j := 4) rfl
    have k5 := KB1.out.at_ (j := 5) rfl
    have p0 := KP1.out.at_ (j := 0) rfl
    have p1 := KP1.out.at_ (j := 1) rfl
    go_wp2_with fail
    refine (clone_Node l A n c 0 w.heap.size _ (by omega) HR1.out).mono ?_
    rintro e2 w2 ⟨v, rfl, ho, hb⟩
    obtain ⟨A', c', rfl, hF⟩ := fr_of_own ho
    have CD := Lib.hid (deln_any (fun x => mUnder l x.f0 e.f1) (.pointer (some ⟨w.heap.size + 1, 0, none⟩)) (.pointer (some ⟨w.heap.size, 0, none⟩)) l A' n c' w1.heap.size w2.heap.size w2 (by omega) (Nat.le_refl _) hF (fun W x hx hc =>
      clo_drop e l A n c 0 w.heap.size B m w.heap.size (w.heap.size + 1) x W hn ((HR1.out.new hb).chg hc (.inl (by omega))) hok ((HM1.out.new hb).keep (hc.block B (by have := (HM1.out.new hb).lt; omega) (by have := HM1.out.lt; omega))) HD.out ((KB1.out.new hb).chg hc (by omega)) ((KP1.out.new hb).chg hc (by omega)) (WalkArith.wf_i64 (hok.out x hx).1) W1.out))
    have HB2 := Lib.hid (below_trans HB1.out hb (by omega))
    have hs2 := hb.size
    clear hb hF ho
    go_wp2_with fail
    refine CD.out.mono ?_
    rintro e3 w3 ⟨A3, c3, rfl, hF3, hc3⟩
    have HF := Lib.hid ((hF3.mono (lo' := w.heap.size) (hi' := w3.heap.size) (by omega) hc3.size))
    have HB3 := Lib.hid (HB2.out.trans (hc3.below (.inl (by omega)) (by omega)))
    clear hF3 hc3 CD
    go_wp2_with fail
    go_ret2
    rw [HE.out]
    exact gives_some rfl HF.out HB3.out
  · have hh : (idx l e.f1).isSome = false := by simpa using ht
    have HE := Lib.hid (show mDrop l e.f1 = none by unfold mDrop; rw [if_neg ht])
    clear ht
    go_enter Tryz.func204, Tryz.ntmps204
    go_wp2_with fail
    refine (page_has1 l A n c B m e.f1 _ _ (HM.out.alloc_ _) W1.out (KL1.out.at_ rfl)).mono ?_
    rintro e1 w1 ⟨rfl, hb⟩
    rw [hh]
    have HB1 := Lib.hid (below_trans (HB0.out.alloc (by simp <;> omega) (.cells #[.int .i64 e.f1] 3)) hb (by simp <;> omega))
    have KB1 := Lib.hid ((KB.out.alloc_ (.cells #[.int .i64 e.f1] 3)).new hb)
    have KP1 := Lib.hid ((KP.out.alloc_ (.cells #[.int .i64 e.f1] 3)).new hb)
    have HM1 := Lib.hid ((HM.out.alloc_ (.cells #[.int .i64 e.f1] 3)).new hb)
    have HR1 := Lib.hid ((HR.out.alloc (.cells #[.int .i64 e.f1] 3)).new hb)
    have hs1 : w.heap.size + 2 < w1.heap.size := by have := hb.size; simp at this; omega
    clear hb KB KP HM HR HB0 KL1 KL2
    have k0 := KB1.out.at_ (j := 0) rfl
    have k1 := KB1.out.at_ (j := 1) rfl
    have k2 := KB1.out.at_ (j := 2) rfl
    have k3 := KB1.out.at_ (j := 3) rfl
    have k4 := KB1.out.at_ (j := 4) rfl
    have k5 := KB1.out.at_ (j := 5) rfl
    have p0 := KP1.out.at_ (j := 0) rfl
    have p1 := KP1.out.at_ (j := 1) rfl
    go_wp2_with fail
    go_ret2
    rw [HE.out]
    exact gives_none HB1.out
end Go.Proofs.YtjgcgipglmhgeaaGreat
