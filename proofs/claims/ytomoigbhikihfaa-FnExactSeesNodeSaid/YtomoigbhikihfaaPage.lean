/- The program's index of a list of nodes by Id, and the model's search: the place of the first node with this Id. -/
import Derived.Test.YtomoigbhikihfaaMapI
import Derived.Test.YtomoigbhikihfaaTNode
import Derived.Test.YtomoigbhikihfaaIn
namespace Go.Proofs.Ytomoigbhikihfaa
open Go Go.ChangeShapes Go.WideShapes Go.ChangeAt Go.RowKit Go.Lib
set_option linter.unusedVariables false
set_option maxRecDepth 100000

/-- The place of the first node with this Id. -/
def idx (l : List TNode) (id : Int) : Option Int := Option.map (fun i : Nat => (i : Int)) (l.findIdx? fun x => x.f0 == id)
theorem idx_nil (id : Int) : idx [] id = none := rfl
theorem idx_snoc {l : List TNode} {k : Nat} {x : TNode} (h : l[k]? = some x) (id : Int) : idx (l.take (k + 1)) id = (idx (l.take k) id).or (if id = x.f0 then some (k : Int) else none) := by
  have hk : (l.take k).length = k := by
    rw [List.length_take]
    have := (List.getElem?_eq_some_iff.1 h).1
    omega
  unfold idx
  rw [List.take_add_one, h, Option.toList_some, List.findIdx?_append, hk]
  cases (l.take k).findIdx? (fun x => x.f0 == id) with
  | some i => simp
  | none =>
    by_cases e : id = x.f0
    · subst e; simp
    · have : (x.f0 == id) = false := by simpa using fun h => e h.symm
      simp [e, this]
theorem idx_old {l : List TNode} {k : Nat} {x : TNode} (h : l[k]? = some x) (hs : (idx (l.take k) x.f0).isSome = true) (id : Int) : idx (l.take k) id = idx (l.take (k + 1)) id := by
  rw [idx_snoc h]
  by_cases e : id = x.f0
  · subst e
    cases hi : idx (l.take k) x.f0 with
    | some v => rfl
    | none => rw [hi] at hs; cases hs
  · simp [e]
theorem idx_new {l : List TNode} {k : Nat} {x : TNode} (h : l[k]? = some x) (hs : (idx (l.take k) x.f0).isSome = false) (id : Int) : (if id = x.f0 then some (k : Int) else idx (l.take k) id) = idx (l.take (k + 1)) id := by
  rw [idx_snoc h]
  by_cases e : id = x.f0
  · subst e
    cases hi : idx (l.take k) x.f0 with
    | some v => rw [hi] at hs; cases hs
    | none => simp
  · simp [e]
theorem idx_lt {l : List TNode} {id v : Int} (h : idx l id = some v) : ∃ (i : Nat) (x : TNode), v = i ∧ i < l.length ∧ l[i]? = some x ∧ x.f0 = id := by
  unfold idx at h
  obtain ⟨i, hi, rfl⟩ := Option.map_eq_some_iff.1 h
  obtain ⟨hlt, hp, _⟩ := List.findIdx?_eq_some_iff_getElem.1 hi
  exact ⟨i, l[i], rfl, hlt, List.getElem?_eq_getElem hlt, by simpa using hp⟩

def PageOf (l : List TNode) (A : Option Addr) (n c : Nat) (w : World) (e : Ending) (w' : World) : Prop :=
  ∃ B, e = .returned (.agg #[.slice A n c, .map (some B)]) ∧ w.heap.size ≤ B ∧ MapAt w' B n (idx l) ∧ Below w.heap.size w w'

theorem node_wf {l : List TNode} (h : cNodeOk l) {k : Nat} {x : TNode} (hx : l[k]? = some x) : (Lit.int .i64 x.f0).wf = true ∧ (Lit.int .i64 x.f1).wf = true :=
  ⟨WalkArith.wf_i64 (h x (List.mem_of_getElem? hx)).1, WalkArith.wf_i64 (h x (List.mem_of_getElem? hx)).2.1⟩

theorem newPage_any (l : List TNode) (A : Option Addr) (n c lo hi : Nat) (w : World) (hn : n ≤ 17179869184) (hr : Rd w lo hi 5 A n (cNode l)) (hok : Hid (cNodeOk l)) :
    Calls Try.prog 62 #[.slice A n c] w (PageOf l A n c w) := by
  have HL := Lib.hid (rd_len TNode.len hr (by decide))
  have HR := Lib.hid hr
  have hmm := make_map_hint (t := 57) Try.underlying57
  clear hr
  go_enter Try.func62, Try.ntmps62
  go_wp2_with fail
  go_loopw [13] (fun i wr => ∃ k : Nat, k ≤ n ∧ i = .int .i64 k ∧ MapAt wr (w.heap.size + 1) k (idx (l.take k)) ∧ BoxAt wr w.heap.size 59 #[.slice none 0 0, .map none] ∧ Below w.heap.size w wr) (fun i _ => n - (intOf i).toNat)
  case atStart =>
    refine ⟨0, Nat.zero_le _, rfl, ?_, ?_, ?_⟩
    · have h := mapAt_made (w.alloc (.cells #[.slice none 0 0, .map none] 59))
      simp only [World.size_alloc] at h
      exact h
    · exact (box_new _ _ _).alloc_ _
    · exact ((Below.refl _ _).alloc (Nat.le_refl _) _).alloc (by simp) _
  case round =>
    obtain ⟨k, hk, rfl, hM, hX, hb⟩ := hrel
    have HB := Lib.hid hb
    have HM := Lib.hid hM
    have HX := Lib.hid hX
    have HS := Lib.hid hM.lt
    by_cases hlt : k < n
    · obtain ⟨b, off, x, rfl, _, _, hz, hc⟩ := rd_elem TNode.len (HR.out.new hb) HL.out hlt
      have c0 : wr.cell? ⟨b, off + k * 5, none⟩ = _ := hc 0 _ rfl
      have c1 := hc 1 _ rfl
      have c2 := hc 2 _ rfl
      have c3 := hc 3 _ rfl
      have c4 := hc 4 _ rfl
      have HZ := Lib.hid hz
      have HW := Lib.hid (node_wf hok.out hz).1
      clear hM hX hb hz hc
      by_cases hs : (idx (l.take k) x.f0).isSome = true
      · have HI := Lib.hid (idx_old HZ.out hs)
        go_wp2_with (at_lookup; refine wp_look_ok rfl _ _ _ rfl Try.underlying57 (w.heap.size + 1) k _ rfl (HM.out.alloc_ _) x.f0 rfl HW.out ?_)
        go_roundw
        case rel => exact ⟨k + 1, by omega, by go_num, ((HM.out.alloc_ _).congr_ HI.out).more (by omega), HX.out.alloc_ _, HB.out.alloc HB.out.size _⟩
        case measure => simp [intOf]; omega
      · have hs : (idx (l.take k) x.f0).isSome = false := by simpa using hs
        have HI := Lib.hid (idx_new HZ.out hs)
        have HWk : Hid ((Lit.int .i64 (k : Int)).wf = true) := WalkArith.wf_i64 (by omega)
        go_wp2_with (first
          | (at_lookup; refine wp_look_ok rfl _ _ _ rfl Try.underlying57 (w.heap.size + 1) k _ rfl (HM.out.alloc_ _) x.f0 rfl HW.out ?_)
          | (at_mapUpdate; refine wp_map_put rfl _ _ _ _ rfl Try.underlying57 (w.heap.size + 1) k _ rfl (HM.out.alloc_ _) (by unfold maxLen; omega) x.f0 (k : Int) rfl rfl HW.out HWk.out ?_; intro w1 hm1 hg1; have HM1 := Lib.hid (hm1.congr_ HI.out); have HX1 := Lib.hid ((HX.out.alloc_ _).grown hg1 (by omega)); have HB1 := Lib.hid ((HB.out.alloc HB.out.size _).grown hg1 (by have := HB.out.size; simp; omega) (fun q hq => by injection hq with hq; omega)); clear hm1 hg1))
        go_roundw
        case rel => exact ⟨k + 1, by omega, by go_num, HM1.out, HX1.out, HB1.out⟩
        case measure => simp [intOf]; omega
    · obtain rfl : k = n := by omega
      rw [List.take_of_length_le (by rw [HL.out]; omega)] at hM
      have HM := Lib.hid hM
      have c0 := hX.at_ (j := 0) (u := .slice none 0 0) rfl
      have c1 := hX.at_ (j := 1) (u := .map none) rfl
      have f0 := hX.free 0
      have f1 := hX.free 1
      clear hM hX hb
      go_wp2_with fail
      refine bodyPost_ret (v := .agg #[.slice A k c, .map (some (w.heap.size + 1))]) (by simp [results, Try.results62, go_sem, c0, c1]) rfl ⟨w.heap.size + 1, rfl, by omega, HM.out.keep ?_, (HB.out.setCell (Nat.le_refl _) _).setCell (Nat.le_refl _) _⟩
      rw [Below.heap_setCell _ _ _ _ (by simp), Below.heap_setCell _ _ _ _ (by simp)]

theorem page_field0 (A : Option Addr) (n c : Nat) (r : Option Nat) (w : World) : (Instr.field 59 (.agg #[.slice A n c, .map r]) 0).run Try.prog w = .ok (.slice A n c) w := by kernel_rfl
theorem page_field1 (A : Option Addr) (n c : Nat) (r : Option Nat) (w : World) : (Instr.field 59 (.agg #[.slice A n c, .map r]) 1).run Try.prog w = .ok (.map r) w := by kernel_rfl
/-- The place of a node, -1 if there is none. -/
def mNodeOf (l : List TNode) (id : Int) : Int := match idx l id with | some i => i | none => -1
theorem idx_first {l : List TNode} {k : Nat} {x : TNode} {id : Int} (hn : idx (l.take k) id = none) (hx : l[k]? = some x) (e : x.f0 = id) : mNodeOf l id = k := by
  have h := idx_snoc hx id
  rw [hn, if_pos e.symm] at h
  have h2 : idx l id = some (k : Int) := by
    have hs : l = l.take (k + 1) ++ l.drop (k + 1) := (List.take_append_drop _ _).symm
    unfold idx at h ⊢
    rw [hs, List.findIdx?_append]
    cases hf : (l.take (k + 1)).findIdx? (fun x => x.f0 == id) with
    | some i => rw [hf] at h; simpa using h
    | none => rw [hf] at h; cases h
  unfold mNodeOf; rw [h2]
theorem idx_next {l : List TNode} {k : Nat} {x : TNode} {id : Int} (hn : idx (l.take k) id = none) (hx : l[k]? = some x) (e : x.f0 ≠ id) : idx (l.take (k + 1)) id = none := by
  rw [idx_snoc hx, hn, if_neg (fun h => e h.symm)]; rfl
theorem spec_NodeOf' (l0 : List TNode) (A0 : Option Addr) (n0 c0 lo0 hi0 : Nat) (a1 : Int) (w : World) (h0 : n0 ≤ 17179869184) (r0 : Rd w lo0 hi0 5 A0 n0 (cNode l0)) :
    Calls Try.prog 45 #[.slice A0 n0 c0, .int .i64 a1] w (fun e w' => e = .returned (.int .i64 (mNodeOf l0 a1)) ∧ w = w') := by
  have HL := Lib.hid (rd_len TNode.len r0 (by decide))
  have R0 := Lib.hid r0
  clear r0
  go_enter Try.func45, Try.ntmps45
  go_wp2_with fail
  go_loop [5] (fun i => ∃ k : Nat, k ≤ n0 ∧ i = .int .i64 k ∧ idx (l0.take k) a1 = none) (fun i => n0 - (intOf i).toNat)
  case atStart => exact ⟨0, Nat.zero_le _, rfl, rfl⟩
  case round =>
    obtain ⟨k, hk, rfl, hn⟩ := hrel
    have HN := Lib.hid hn
    clear hn
    by_cases hlt : k < n0
    · obtain ⟨b, off, x, rfl, _, _, hz, hc⟩ := rd_elem TNode.len R0.out HL.out hlt
      have c0 : w.cell? ⟨b, off + k * 5, none⟩ = _ := hc 0 _ rfl
      by_cases e : x.f0 = a1
      · have g : (x.f0 == a1) = true := by simpa using e
        have HE := Lib.hid (idx_first HN.out hz e)
        clear hz hc e
        go_wp2_with fail
        go_ret
        exact ⟨by rw [HE.out]; rfl, rfl⟩
      · have g : (x.f0 == a1) = false := by simpa using e
        have HE := Lib.hid (idx_next HN.out hz e)
        clear hz hc e
        go_wp2_with fail
        go_round
        case rel => exact ⟨k + 1, by omega, by go_num, HE.out⟩
        case measure => simp [intOf]; omega
    · obtain rfl : k = n0 := by omega
      have HE := Lib.hid (show mNodeOf l0 a1 = -1 by
        have h := HN.out
        rw [List.take_of_length_le (by rw [HL.out]; omega)] at h
        unfold mNodeOf; rw [h])
      go_wp2_with fail
      go_ret
      exact ⟨by rw [HE.out]; rfl, rfl⟩
theorem spec_NodeOf (l0 : List TNode) (A0 : Option Addr) (n0 c0 lo0 hi0 : Nat) (a1 : Int) (w : World) (h0 : n0 ≤ 1048576) (r0 : Rd w lo0 hi0 5 A0 n0 (cNode l0)) (b0 : Hid (cNodeOk l0)) (w1 : (Lit.int .i64 a1).wf = true) :
    Calls Try.prog 45 #[.slice A0 n0 c0, .int .i64 a1] w (Says (.int .i64 (mNodeOf l0 a1)) w) := says_of_same (spec_NodeOf' l0 A0 n0 c0 lo0 hi0 a1 w (by omega) r0)
end Go.Proofs.Ytomoigbhikihfaa
