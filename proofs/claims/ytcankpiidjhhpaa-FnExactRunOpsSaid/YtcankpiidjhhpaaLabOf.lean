/- LabelOf of the program. -/
import Derived.Test.YtcankpiidjhhpaaMapB
import Derived.Test.YtcankpiidjhhpaaLabS
import Derived.Test.YtcankpiidjhhpaaSlI
import Derived.Test.YtcankpiidjhhpaaIn
import Derived.Deep.LoopGhost
import Derived.WalkArith
namespace Go.Proofs.Ytcankpiidjhhpaa
open Go Go.ChangeShapes Go.WideShapes Go.ChangeAt Go.RowKit Go.Lib
set_option linter.unusedVariables false
set_option linter.unusedSimpArgs false
set_option maxRecDepth 100000
theorem mLabS_snoc (l : List Int) (z : Int) (k : Nat) : mLabS (l ++ [z]) k = mLabS l k + if 1 ≤ z ∧ z ≤ (k : Int) ∧ ¬ z ∈ l then 2 ^ z.toNat else 0 := by
 induction k with
 | zero =>
  simp only [mLabS]
  rw [if_neg (by omega)]
 | succ k ih =>
  simp only [mLabS, ih, List.mem_append, List.mem_singleton]
  by_cases hz : z = (k : Int) + 1
  ·
   subst hz
   have e : ((k : Int) + 1).toNat = k + 1 := by omega
   rw [if_neg (by omega), e]
   by_cases hm : ((k : Int) + 1) ∈ l
   ·
    rw [if_pos (Or.inl hm), if_pos hm, if_neg (by intro h; exact h.2.2 hm)] <;> omega
   ·
    rw [if_pos (Or.inr rfl), if_neg hm, if_pos ⟨by omega, by omega, hm⟩] <;> omega
  ·
   have h1 : (((k : Int) + 1) ∈ l ∨ (k : Int) + 1 = z) ↔ ((k : Int) + 1) ∈ l := ⟨fun h => h.elim id (fun h => absurd h.symm hz), Or.inl⟩
   have h2 : (1 ≤ z ∧ z ≤ (k : Int) ∧ ¬ z ∈ l) ↔ (1 ≤ z ∧ z ≤ ((k + 1 : Nat) : Int) ∧ ¬ z ∈ l) := by
    constructor
    ·
     rintro ⟨a, b, c⟩; exact ⟨a, by omega, c⟩
    ·
     rintro ⟨a, b, c⟩; exact ⟨a, by omega, c⟩
   simp only [h1, h2]
   omega
/-- What the map says when these owners have come by. -/
def sMet (l : List Int) (id : Int) : Bool := decide (id ∈ l) && inR id 1 9
theorem sMet_off {l : List Int} {z : Int} (h : inR z 1 9 = false) (id : Int) : sMet l id = sMet (l ++ [z]) id := by
 unfold sMet
 by_cases e : id = z
 ·
  subst e; rw [h]; simp
 ·
  simp [e]
theorem sMet_on {l : List Int} {z : Int} (h : inR z 1 9 = true) (id : Int) : (if id = z then true else sMet l id) = sMet (l ++ [z]) id := by
 unfold sMet
 by_cases e : id = z
 ·
  subst e; rw [h]; simp
 ·
  simp [e]
theorem sMet_in {l : List Int} {z : Int} (h : sMet l z = true) (id : Int) : sMet l id = sMet (l ++ [z]) id := by
 unfold sMet at *
 by_cases e : id = z
 ·
  subst e
  simp at h
  simp [h.1]
 ·
  simp [e]
theorem lab_same {l : List Int} {z : Int} (h : inR z 1 9 = false ∨ sMet l z = true) : mLabS (l ++ [z]) 9 = mLabS l 9 := by
 rw [mLabS_snoc, if_neg]
 ·
  rfl
 ·
  rintro ⟨h1, h2, h3⟩
  rcases h with h | h
  ·
   have h9 : z ≤ 9 := h2
   rw [inR_true.2 ⟨h1, h9⟩] at h; cases h
  ·
   unfold sMet at h; simp at h; exact h3 h.1
theorem lab_new {l : List Int} {z : Int} (h : inR z 1 9 = true) (h2 : sMet l z = false) : mLabS (l ++ [z]) 9 = mLabS l 9 + 2 ^ z.toNat := by
 have hb := inR_true.1 h
 rw [mLabS_snoc, if_pos]
 refine ⟨hb.1, hb.2, fun hm => ?_⟩
 unfold sMet at h2
 rw [h, decide_eq_true hm] at h2
 cases h2
theorem take_snoc {l : List Int} {k : Nat} {z : Int} (h : l[k]? = some z) : l.take (k + 1) = l.take k ++ [z] := by rw [List.take_add_one, h]; rfl
set_option maxHeartbeats 16000000 in
theorem implLabelOf (l : List Int) (A : Option Addr) (n c lo hi : Nat) (w : World) (hn : n ≤ 1048576) (hr : Rd w lo hi 1 A n (i64s l)) (b0 : Hid (I64s l)) :
  Calls Try.prog 13 #[.slice A n c] w (Says (.int .i64 ((mLabS l 9 : Nat) : Int)) w) := by
 have HT : Hid (Try.prog.underlying 93 = some (.map 3 4)) := Lib.hid Try.underlying93
 have hmk : ∀ W, (Instr.makeMap 93 none).run Try.prog W = .ok (.map (some W.heap.size)) (W.alloc (.map #[] 0)) := make_map_none Try.underlying93
 have HR := Lib.hid hr
 have HL := Lib.hid (show l.length = n by have := hr.1; simpa [i64s] using this)
 have HLe := Lib.hid (fun m : List Int => show mLabS m 9 + 2 ≤ 1024 from mLabS_le m 9)
 clear hr
 go_enter Try.func13, Try.ntmps13
 go_wp2_with fail
 go_loopg [4, 10] n (fun gg lv i wr => ∃ (k m : Nat), k ≤ n ∧ n - k ≤ gg ∧ i = .int .i64 k ∧ lv = .int .i64 m ∧ Hid (mLabS (l.take k) 9 = m) ∧ Hid (MapB wr w.heap.size k (sMet (l.take k))) ∧ Hid (Below w.heap.size w wr))
 case atStart => exact ⟨0, 0, Nat.zero_le _, by omega, rfl, rfl, Lib.hid (by rw [List.take_zero]; decide), Lib.hid ((mapB_made w).congr_ (fun id => by simp [sMet])), Lib.hid ((Below.refl _ _).alloc (Nat.le_refl _) _)⟩
 case round =>
  obtain ⟨k, m, hk, hg, rfl, rfl, HM, HP, HB⟩ := hrel
  by_cases hlt : k < n
  ·
   obtain ⟨b, off, z, rfl, _, _, hz, hc⟩ := rd_int (HR.out.new HB.out) hlt
   have c0 : wr.cell? ⟨b, off + k, none⟩ = some (.int .i64 z) := hc
   have hzb := b0.out z (List.mem_of_getElem? hz)
   have HTk := Lib.hid (take_snoc hz)
   have hwf : (Lit.int .i64 z).wf = true := WalkArith.wf_i64 hzb
   have HLk := HP.out.look HT.out z hwf
   have C1 := fun W => impl_in z 1 9 W
   have HS0 := Lib.hid (fun (h : inR z 1 9 = false ∨ sMet (l.take k) z = true) => (lab_same h).trans HM.out)
   have HS1 := Lib.hid (fun (h : inR z 1 9 = true) (h2 : sMet (l.take k) z = false) => by have := lab_new h h2; rwa [HM.out] at this)
   have hz9 : inR z 1 9 = true → 1 ≤ z ∧ z ≤ 9 := fun h => inR_true.1 h
   have Hoff := Lib.hid (fun (h : inR z 1 9 = false) => HP.out.congr_ (sMet_off h))
   have Hin := Lib.hid (fun (h : sMet (l.take k) z = true) => HP.out.congr_ (sMet_in h))
   have Hon := Lib.hid (fun (h : inR z 1 9 = true) id => sMet_on (l := l.take k) h id)
   clear hz hc
   cases hq : sMet (l.take k) z with
   | true =>
    rw [hq] at HLk
    have HE := Lib.hid (HS0.out (.inr hq))
    have HP2 := Lib.hid (Hin.out hq)
    clear hq HS0 HS1 Hoff Hin Hon hz9
    go_wp2_with fail
    go_roundg (n - (k + 1))
    case measure => omega
    case rel => exact ⟨k + 1, m, by omega, by omega, by go_num, rfl, by rw [HTk.out]; exact HE, by rw [HTk.out]; exact Lib.hid (HP2.out.more (by omega)), HB⟩
   | false =>
    rw [hq] at HLk
    have hq2 := Lib.hid hq
    clear hq
    cases hi : inR z 1 9 with
    | false =>
     rw [hi] at C1
     have HE := Lib.hid (HS0.out (.inl hi))
     have HP2 := Lib.hid (Hoff.out hi)
     clear hi HS0 HS1 Hoff Hin Hon hz9
     go_wp2_with fail
     refine (C1 _).mono ?_
     rintro e w1 ⟨rfl, rfl⟩
     go_wp2_with fail
     go_roundg (n - (k + 1))
     case measure => omega
     case rel => exact ⟨k + 1, m, by omega, by omega, by go_num, rfl, by rw [HTk.out]; exact HE, by rw [HTk.out]; exact Lib.hid (HP2.out.more (by omega)), HB⟩
    | true =>
     rw [hi] at C1
     have HE := Lib.hid (HS1.out hi hq2.out)
     have Hon2 := Lib.hid (Hon.out hi)
     have hm2 : m + 2 ^ z.toNat ≤ 1022 := by have := HLe.out (l.take k ++ [z]); rw [HE.out] at this; omega
     have hz3 := hz9 hi
     clear hi HS0 HS1 Hoff Hin Hon hz9
     have hcase : z = 1 ∨ z = 2 ∨ z = 3 ∨ z = 4 ∨ z = 5 ∨ z = 6 ∨ z = 7 ∨ z = 8 ∨ z = 9 := by omega
     clear hz3
     rcases hcase with rfl | rfl | rfl | rfl | rfl | rfl | rfl | rfl | rfl
     all_goals
      simp at hm2
      go_wp2_with fail
      refine (C1 _).mono ?_
      rintro e w1 ⟨rfl, rfl⟩
      go_wp2_with (refine wp_mapb_put rfl _ _ _ _ rfl HT.out w.heap.size k _ rfl HP.out (by unfold maxLen; omega) _ true rfl rfl (by decide) ?_; intro w2 hp2 hg2; have HP2 := Lib.hid hp2; have HG2 := Lib.hid hg2; clear hp2 hg2)
      have HB2 := Lib.hid (HB.out.grown HG2.out HB.out.size (fun q hq => by injection hq with hq; omega))
      go_roundg (n - (k + 1))
      case measure => omega
      case rel => exact ⟨k + 1, _, by omega, by omega, by go_num, rfl, by rw [HTk.out]; exact Lib.hid (by rw [HE.out]; rfl), by rw [HTk.out]; exact Lib.hid (HP2.out.congr_ Hon2.out), HB2⟩
  ·
   obtain rfl : k = n := by omega
   have HE := Lib.hid (show mLabS l 9 = m by have := HM.out; rwa [List.take_of_length_le (by rw [HL.out]; omega)] at this)
   go_wp2_with fail
   go_ret
   exact ⟨by rw [HE.out]; rfl, HB.out⟩
theorem impl_LabelOf (l : List Int) (A : Option Addr) (n c lo hi : Nat) (w : World) (hn : n ≤ 1048576) (hr : Rd w lo hi 1 A n (i64s l)) (b0 : Hid (I64s l)) :
  Calls Try.prog 13 #[.slice A n c] w (Says (.int .i64 ((mLabS l 9 : Nat) : Int)) w) := implLabelOf l A n c lo hi w hn hr b0
theorem spec_LabelOfE (l : List Int) (A : Option Addr) (n c lo hi : Nat) (w : World) (hn : n ≤ 1048576) (hr : Rd w lo hi 1 A n (i64s l)) (b0 : Hid (I64s l)) :
  Calls Try.prog 111 #[.slice A n c] w (Says (.int .i64 ((mLabS l 9 : Nat) : Int)) w) := says_of_same (spec_LabelOf l A n c lo hi w hn hr)

end Go.Proofs.Ytcankpiidjhhpaa
