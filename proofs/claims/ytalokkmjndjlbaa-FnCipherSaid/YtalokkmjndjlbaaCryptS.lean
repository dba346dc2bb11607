/- Encrypt and Decrypt of the model. -/
import Derived.Test.YtalokkmjndjlbaaCrypt
import Derived.Deep.AppendLies
namespace Go.Proofs.Ytalokkmjndjlbaa
open Go Go.ChangeShapes Go.WideShapes Go.ChangeAt Go.RowKit Go.Lib
set_option linter.unusedVariables false
set_option maxRecDepth 100000

theorem info_u8c : (Try.prog.info? 5).map (fun i => (i.zero, i.size, i.bytes)) = some (some (.int .u8 0), 1, 1) := by kernel_rfl
theorem own_new {B : Nat} {e : TypeId} {k : Nat} {v : Value} {n : Nat} {xs : List Value} {w w' : World} (h : w.ownsRow B e k v n xs) (hb : Below w.heap.size w w') : w'.ownsRow B e k v n xs :=
  h.kept (row := none) ⟨hb.os, hb.tape, hb.output, hb.size, fun k hk _ => hb.block k hk⟩ (by
    cases v.ownBlock with
    | none => exact .inl rfl
    | some _ => exact .inr (fun h => by cases h))
theorem one_byte (z : Int) : ∀ u ∈ (#[Value.int .u8 z]).toList, u.oneCell' = true := by
  intro u hu
  simp only [List.mem_singleton] at hu
  subst hu
  rfl
theorem enc_val {z h : Int} (h0 : 0 ≤ z) (h1 : z ≤ 255) (h2 : 0 ≤ h) (h3 : h < 2147483647) : IntKind.u8.wrap ((IntKind.i64.wrap (IntKind.i64.wrap z + h.tmod 256)).tmod 256) = (z + 1 * h) % 256 := by
  rw [Int.tmod_eq_emod_of_nonneg h2]
  have e1 : IntKind.i64.wrap z = z := IntWalk.i64_in _ (by omega)
  rw [e1]
  have e2 : IntKind.i64.wrap (z + h % 256) = z + h % 256 := IntWalk.i64_in _ (by omega)
  rw [e2, Int.tmod_eq_emod_of_nonneg (by omega)]
  show ((z + h % 256) % 256) % 256 = _
  omega
theorem cell_new {w w' : World} {a : Addr} {u : Value} (hb : Below w.heap.size w w') (h : w.cell? a = some u) : w'.cell? a = some u :=
  (World.cell?_of_block (hb.block _ (World.block_lt_of_cell? w _ h))).trans h
theorem cell_low {B : Nat} {w w' : World} {a : Addr} {u : Value} (hb : Below B w w') (hl : a.block < B) (h : w.cell? a = some u) : w'.cell? a = some u :=
  (World.cell?_of_block (hb.block _ hl)).trans h
/-- append of a literal, at a step of a region that draws its order. -/
theorem step_app_lit {P : Program} {w : World} {ops : Array Oper} {o : Oper} {a : Act} {K : Act → World → Prop} {Q : Exit → Act → World → Prop} {E : Prop} (hgd : o.guard = none) (s x : Operand) (t : TypeId)
    (ho : o.op = .call { callee := .builtin .append, args := #[s, x], argTypes := #[t, t] })
    (base : Nat) (e : TypeId) (z : Value) (size bytes : Nat) (ht : P.underlying t = some (.slice e)) (hinfo : (P.info? e).map (fun i => (i.zero, i.size, i.bytes)) = some (some z, size, bytes))
    (hzs : z.cells.size = size) (hsz : 0 < size) (v : Value) (n : Nat) (xs : List Value) (hs : a.eval s = v) (hown : w.ownsRow base e size v n xs)
    (us : Array Value) (m c g : Nat) (hx : a.eval x = .slice (some ⟨g, 0, none⟩) m c) (hg : g = w.heap.size) (hus : us.size = m * size) (h1 : ∀ u ∈ us.toList, u.oneCell' = true)
    (h63 : n + m ≤ maxLen) (hbytes : (n + m) * bytes ≤ 140737488355328) (hbase : base ≤ w.heap.size)
    (h : ∀ v' w', w'.ownsRow base e size v' (n + m) (xs ++ us.toList) → Below base (w.alloc (.cells us e)) w' → K (a.put o.dst v') w') :
    if Region.wanted o (yielded ops a.tmps) = true then Oper.wp P o a (w.alloc (.cells us e)) K Q else E := by
  subst hg
  have hw : Region.wanted o (yielded ops a.tmps) = true := by simp [Region.wanted, hgd]
  rw [if_pos hw]
  obtain ⟨v', w', hrun, h2, h3, h4⟩ := run_app (P := P) base t o.type e z size bytes ht hinfo hzs hsz v n xs (hown.alloc _) _ _ _ m c us.toList (rd_lit w us e m size hus) h1 h63 hbytes (by simp; omega)
  unfold Oper.wp execOp
  simp only [ho, resolve, invoke, builtin, Sem.run_bind, Sem.run_pure, Result.andThen_ok, List.map_toArray, List.map_cons, List.map_nil, hs, hx, hrun]
  exact h v' w' h2 (below_of_grown (hown.alloc (.cells us e)) (by simp; omega) h3)

theorem spec_Encrypt (a0 : Int) (l1 : List Int) (A1 : Option Addr) (n1 c1 lo1 hi1 : Nat) (w : World) (w0 : (Lit.int .i64 a0).wf = true) (h1 : n1 ≤ 1048576) (r1 : Rd w lo1 hi1 1 A1 n1 (u8s l1)) (b1 : Hid (U8s l1)) :
    Calls Try.prog 28 #[.int .i64 a0, .slice A1 n1 c1] w (Makes 5 1 (mCry a0 1 l1).length (u8s (mCry a0 1 l1)) w) := by
  have HR := Lib.hid (r1.old (by decide))
  have HL := Lib.hid (show l1.length = n1 by simpa using r1.1)
  have WK := Lib.hid w0
  clear r1 w0
  go_enter Try.func28, Try.ntmps28
  go_wp2_with fail
  go_loopw [5, 6] (fun v i wr => ∃ k : Nat, k ≤ n1 ∧ i = .int .i64 k ∧ wr.ownsRow w.heap.size 5 1 v k (u8s ((mCry a0 1 l1).take k)) ∧ Below w.heap.size w wr) (fun _ i _ => n1 - (intOf i).toNat)
  case atStart => exact ⟨0, Nat.zero_le _, rfl, World.ownsRow_lit w #[] 0 (Nat.le_refl _) (by unfold maxLen; omega) rfl, (Below.refl _ _).alloc (Nat.le_refl _) _⟩
  case round =>
    obtain ⟨k, hk, rfl, hown, hb⟩ := hrel
    have HB := Lib.hid hb
    have HO := Lib.hid hown
    have HS := Lib.hid hb.size
    by_cases hlt : k < n1
    · obtain ⟨b, off, z, rfl, _, hbl, hz, hc⟩ := rd_int (HR.out.below hb (Nat.le_refl _)) hlt
      have hz2 := b1.out z (List.mem_of_getElem? hz)
      have hz3 := hz2.1
      have hz4 := hz2.2
      have s0 := (strm_bd a0 k).1
      have s1 := (strm_bd a0 k).2
      have HL1 := Lib.hid hbl
      have HK := Lib.hid (rd_lit wr.drew #[.int .i64 (k : Int)] 3 1 1 rfl)
      have HI : Hid (I64s [(k : Int)]) := fun z hz => by
        simp only [List.mem_singleton] at hz
        subst hz; omega
      have HV := Lib.hid (show u8s ((mCry a0 1 l1).take k) ++ (#[Value.int .u8 (IntKind.u8.wrap ((IntKind.i64.wrap (IntKind.i64.wrap z + (mKHash a0 [(k : Int)]).tmod 256)).tmod 256))]).toList = u8s ((mCry a0 1 l1).take (k + 1)) by
        have h := mCry_get (key := a0) (f := 1) hz
        rw [enc_val hz3 hz4 (mKHash_bd a0 [(k : Int)]).1 (mKHash_bd a0 [(k : Int)]).2, List.take_add_one, h]; simp [strm])
      clear hb hown hz hz2 hbl
      go_wp2_with fail
      go_region_held3 (fun w' => w'.cell? ⟨b, off + k, none⟩ = some (.int .u8 z))
        (first
          | exact cell_low hb2 HL1.out (by assumption)
          | exact cell_new hb1 (by assumption)
          | go_keep)
        (first
          | (go_at_call 19; refine (spec_KeyedHash' a0 [(k : Int)] _ 1 1 _ _ _ WK.out (by omega) HK.out HI).mono ?_; rintro e w1 ⟨rfl, hb1⟩; have HB1 := Lib.hid hb1)
          | (refine step_app_lit rfl _ _ _ (by rfl) w.heap.size 5 (.int .u8 0) 1 1 Try.underlying22 info_u8c rfl (by decide) _ _ _ (by rfl) (own_new (HO.out.drew.alloc _) HB1.out) _ 1 1 _ (by rfl) (by rfl) (by rfl) (one_byte _) (by unfold maxLen; omega) (by omega) (Nat.le_trans HS.out (by have h := HB1.out.size; simp at h; omega)) ?_; intro v1 w2 ho2 hb2; have HB2 := Lib.hid hb2; have HO2 := Lib.hid ho2))
      rw [HV.out] at HO2
      go_wp2_with fail
      have HB3 := Lib.hid ((HB.out.drew.alloc HS.out _).trans (HB1.out.mono (by have h := HS.out; simp; omega)))
      go_roundw
      case rel => exact ⟨k + 1, by omega, by go_num, HO2.out, (HB3.out.alloc HB3.out.size _).trans HB2.out⟩
      case measure => simp [intOf]; omega
    · obtain rfl : k = n1 := by omega
      have HO := Lib.hid (makes_of_own (show wr.ownsRow w.heap.size 5 1 _ (mCry a0 1 l1).length (u8s (mCry a0 1 l1)) by rw [mCry_len, HL.out]; rw [List.take_of_length_le (by rw [mCry_len, HL.out]; omega)] at hown; exact hown) HB.out)
      clear hb hown
      go_wp2
      go_ret
      exact HO.out
theorem dec_sub {z h : Int} (h0 : 0 ≤ z) (h1 : z ≤ 255) (h2 : 0 ≤ h) (h3 : h < 2147483647) : IntKind.i64.wrap (IntKind.i64.wrap z - h.tmod 256) = z - h % 256 := by
  rw [Int.tmod_eq_emod_of_nonneg h2]
  have e1 : IntKind.i64.wrap z = z := IntWalk.i64_in _ (by omega)
  rw [e1]
  exact IntWalk.i64_in _ (by omega)
theorem dec_wf {z h : Int} (h0 : 0 ≤ z) (h1 : z ≤ 255) (h2 : 0 ≤ h) (h3 : h < 2147483647) : (Lit.int .i64 (IntKind.i64.wrap (IntKind.i64.wrap z - h.tmod 256))).wf = true := by
  rw [dec_sub h0 h1 h2 h3]
  exact WalkArith.wf_i64 (by constructor <;> omega)
theorem dec_val {z h : Int} (h0 : 0 ≤ z) (h1 : z ≤ 255) (h2 : 0 ≤ h) (h3 : h < 2147483647) : IntKind.u8.wrap ((IntKind.i64.wrap (IntKind.i64.wrap z - h.tmod 256)) % 256) = (z + (-1) * h) % 256 := by
  rw [dec_sub h0 h1 h2 h3]
  show ((z - h % 256) % 256) % 256 = _
  omega
theorem spec_Decrypt (a0 : Int) (l1 : List Int) (A1 : Option Addr) (n1 c1 lo1 hi1 : Nat) (w : World) (w0 : (Lit.int .i64 a0).wf = true) (h1 : n1 ≤ 1048576) (r1 : Rd w lo1 hi1 1 A1 n1 (u8s l1)) (b1 : Hid (U8s l1)) :
    Calls Try.prog 30 #[.int .i64 a0, .slice A1 n1 c1] w (Makes 5 1 (mCry a0 (-1) l1).length (u8s (mCry a0 (-1) l1)) w) := by
  have HR := Lib.hid (r1.old (by decide))
  have HL := Lib.hid (show l1.length = n1 by simpa using r1.1)
  have WK := Lib.hid w0
  clear r1 w0
  go_enter Try.func30, Try.ntmps30
  go_wp2_with fail
  go_loopw [5, 6] (fun v i wr => ∃ k : Nat, k ≤ n1 ∧ i = .int .i64 k ∧ wr.ownsRow w.heap.size 5 1 v k (u8s ((mCry a0 (-1) l1).take k)) ∧ Below w.heap.size w wr) (fun _ i _ => n1 - (intOf i).toNat)
  case atStart => exact ⟨0, Nat.zero_le _, rfl, World.ownsRow_lit w #[] 0 (Nat.le_refl _) (by unfold maxLen; omega) rfl, (Below.refl _ _).alloc (Nat.le_refl _) _⟩
  case round =>
    obtain ⟨k, hk, rfl, hown, hb⟩ := hrel
    have HB := Lib.hid hb
    have HO := Lib.hid hown
    have HS := Lib.hid hb.size
    by_cases hlt : k < n1
    · obtain ⟨b, off, z, rfl, _, hbl, hz, hc⟩ := rd_int (HR.out.below hb (Nat.le_refl _)) hlt
      have hz2 := b1.out z (List.mem_of_getElem? hz)
      have hz3 := hz2.1
      have hz4 := hz2.2
      have s0 := (strm_bd a0 k).1
      have s1 := (strm_bd a0 k).2
      have HW := Lib.hid (dec_wf hz3 hz4 (mKHash_bd a0 [(k : Int)]).1 (mKHash_bd a0 [(k : Int)]).2)
      have HL1 := Lib.hid hbl
      have HK := Lib.hid (rd_lit wr.drew #[.int .i64 (k : Int)] 3 1 1 rfl)
      have HI : Hid (I64s [(k : Int)]) := fun z hz => by
        simp only [List.mem_singleton] at hz
        subst hz; omega
      have HV := Lib.hid (show u8s ((mCry a0 (-1) l1).take k) ++ (#[Value.int .u8 (IntKind.u8.wrap ((IntKind.i64.wrap (IntKind.i64.wrap z - (mKHash a0 [(k : Int)]).tmod 256)) % 256))]).toList = u8s ((mCry a0 (-1) l1).take (k + 1)) by
        have h := mCry_get (key := a0) (f := (-1)) hz
        rw [dec_val hz3 hz4 (mKHash_bd a0 [(k : Int)]).1 (mKHash_bd a0 [(k : Int)]).2, List.take_add_one, h]; simp [strm])
      clear hb hown hz hz2 hbl
      go_wp2_with fail
      go_region_held3 (fun w' => w'.cell? ⟨b, off + k, none⟩ = some (.int .u8 z))
        (first
          | exact cell_low hb2 HL1.out (by assumption)
          | exact cell_new hb1 (by assumption)
          | go_keep)
        (first
          | (go_at_call 19; refine (spec_KeyedHash' a0 [(k : Int)] _ 1 1 _ _ _ WK.out (by omega) HK.out HI).mono ?_; rintro e w1 ⟨rfl, hb1⟩; have HB1 := Lib.hid hb1)
          | (go_at_call 38; refine (spec_mod _ 256 _ (by decide) (by decide) HW.out).mono ?_; rintro e w2 ⟨rfl, rfl⟩)
          | (refine step_app_lit rfl _ _ _ (by rfl) w.heap.size 5 (.int .u8 0) 1 1 Try.underlying22 info_u8c rfl (by decide) _ _ _ (by rfl) (own_new (HO.out.drew.alloc _) HB1.out) _ 1 1 _ (by rfl) (by rfl) (by rfl) (one_byte _) (by unfold maxLen; omega) (by omega) (Nat.le_trans HS.out (by have h := HB1.out.size; simp at h; omega)) ?_; intro v1 w2 ho2 hb2; have HB2 := Lib.hid hb2; have HO2 := Lib.hid ho2))
      rw [HV.out] at HO2
      go_wp2_with fail
      have HB3 := Lib.hid ((HB.out.drew.alloc HS.out _).trans (HB1.out.mono (by have h := HS.out; simp; omega)))
      go_roundw
      case rel => exact ⟨k + 1, by omega, by go_num, HO2.out, (HB3.out.alloc HB3.out.size _).trans HB2.out⟩
      case measure => simp [intOf]; omega
    · obtain rfl : k = n1 := by omega
      have HO := Lib.hid (makes_of_own (show wr.ownsRow w.heap.size 5 1 _ (mCry a0 (-1) l1).length (u8s (mCry a0 (-1) l1)) by rw [mCry_len, HL.out]; rw [List.take_of_length_le (by rw [mCry_len, HL.out]; omega)] at hown; exact hown) HB.out)
      clear hb hown
      go_wp2
      go_ret
      exact HO.out
end Go.Proofs.Ytalokkmjndjlbaa
