/- ReadBytes behind AppendBytes, of lists alone. -/
import Derived.Test.YtblmdjdaiilmmaaUvR
import Derived.Test.YtblmdjdaiilmmaaAppB
import Derived.Test.YtblmdjdaiilmmaaRdC
import Derived.Test.YtblmdjdaiilmmaaDeI
namespace Go.Proofs.Ytblmdjdaiilmmaa
open Go Go.ChangeShapes Go.WideShapes Go.ChangeAt Go.RowKit Go.Lib
set_option linter.unusedVariables false
set_option linter.unusedSimpArgs false
set_option maxRecDepth 100000
theorem mReadU_mid (b t : List Int) (v : Nat) (h : v ≤ 1000000000000) : mReadU (b ++ uv v ++ t) (b.length : Int) = ⟨(v : Int), ((b.length + (uv v).length : Nat) : Int), true⟩ := by
  unfold mReadU
  rw [if_neg (by omega), Int.toNat_natCast]
  have := mRd_uv (b ++ uv v ++ t) b.length 6 0 0 v rfl (by omega) (.inr rfl) (by decide) (by omega) (fun j z hj => by
    have hlt := (List.getElem?_eq_some_iff.1 hj).1
    rw [Nat.add_zero, List.append_assoc, List.getElem?_append_right (by omega), Nat.add_sub_cancel_left, List.getElem?_append_left hlt]
    exact hj)
  rw [Int.ofNat_zero] at this
  rw [this]
  simp
theorem mAppU_nat (b : List Int) {v : Nat} (h : v ≤ 1000000000000) : mAppU b (v : Int) = b ++ uv v := by
  unfold mAppU
  rw [if_pos (inR_true.2 ⟨by omega, by omega⟩), Int.toNat_natCast]
theorem mAppB_read (b d : List Int) (h : d.length ≤ 1048576) : mReadU (mAppB b d) (b.length : Int) = ⟨(d.length : Int), ((b.length + (uv d.length).length : Nat) : Int), true⟩ := by
  unfold mAppB
  rw [mAppU_nat b (by omega)]
  exact mReadU_mid b d d.length (by omega)
theorem mAppB_lenE (b d : List Int) (h : d.length ≤ 1048576) : (mAppB b d).length = b.length + (uv d.length).length + d.length := by
  unfold mAppB
  rw [mAppU_nat b (by omega), List.length_append, List.length_append]
theorem mRB_back (b d : List Int) (h : d.length ≤ 1048576) : mRBok (mAppB b d) (b.length : Int) (d.length : Int) = true ∧ mRBl (mAppB b d) (b.length : Int) (d.length : Int) = d ∧ mRBto (mAppB b d) (b.length : Int) (d.length : Int) = ((mAppB b d).length : Int) := by
  have hr := mAppB_read b d h
  have hl := mAppB_lenE b d h
  have hok : mRBok (mAppB b d) (b.length : Int) (d.length : Int) = true := by
    unfold mRBok
    rw [hr, hl]
    simp
  refine ⟨hok, ?_, ?_⟩
  · unfold mRBl
    rw [if_pos hok, hr]
    show ((mAppB b d).drop ((b.length + (uv d.length).length : Nat) : Int).toNat).take (d.length : Int).toNat = d
    rw [Int.toNat_natCast, Int.toNat_natCast]
    unfold mAppB
    rw [mAppU_nat b (by omega), List.drop_append, List.drop_of_length_le (by rw [List.length_append]; omega), List.length_append, Nat.sub_self, List.drop_zero, List.nil_append, List.take_length]
  · unfold mRBto
    rw [if_pos hok, hr, hl]
    push_cast
    rfl
theorem mRB_short (b d : List Int) (h : d.length ≤ 1048576) : mRBok (mAppB b d) (b.length : Int) ((d.length : Int) - 1) = false := by
  unfold mRBok
  rw [mAppB_read b d h]
  simp
  omega
/-- The numbers one after another. -/
def uvs (l : List Nat) : List Int := l.flatMap uv
theorem foldl_uvs : ∀ (l : List Nat) (b : List Int), (∀ v ∈ l, v ≤ 1000000000000) → (l.map fun (v : Nat) => (v : Int)).foldl mAppU b = b ++ uvs l
  | [], b, _ => by simp [uvs]
  | v :: l, b, h => by
    simp only [List.map_cons, List.foldl_cons]
    rw [mAppU_nat b (h v (by simp)), foldl_uvs l _ (fun u hu => h u (List.mem_cons_of_mem _ hu))]
    simp [uvs]
theorem mEnc_uvs (l : List Nat) (h : ∀ v ∈ l, v ≤ 1000000000000) : mEnc (l.map fun (v : Nat) => (v : Int)) = uvs l := by
  unfold mEnc
  rw [foldl_uvs l [] h]
  rfl
theorem mDec_uvs : ∀ (l : List Nat) (b : List Int) (acc : List Int), (∀ v ∈ l, v ≤ 1000000000000) → mDec (b ++ uvs l) l.length (b.length : Int) acc = ⟨acc ++ l.map fun (v : Nat) => (v : Int), ((b ++ uvs l).length : Int), true⟩
  | [], b, acc, _ => by simp [mDec, uvs]
  | v :: l, b, acc, h => by
    have e : b ++ uvs (v :: l) = b ++ uv v ++ uvs l := by simp [uvs]
    have hr := mReadU_mid b (uvs l) v (h v (by simp))
    have ih := mDec_uvs l (b ++ uv v) (acc ++ [(v : Int)]) (fun u hu => h u (List.mem_cons_of_mem _ hu))
    rw [e, List.length_cons, mDec, hr, if_pos rfl]
    show mDec _ l.length ((b.length + (uv v).length : Nat) : Int) _ = _
    rw [← List.length_append, ih]
    simp
theorem mDec_more : ∀ (l : List Nat) (b : List Int) (acc : List Int), (∀ v ∈ l, v ≤ 1000000000000) → mDec (b ++ uvs l) (l.length + 1) (b.length : Int) acc = noD
  | [], b, acc, _ => by
    rw [show b ++ uvs [] = b by simp [uvs], List.length_nil, mDec, mReadU_end]
    rfl
  | v :: l, b, acc, h => by
    have e : b ++ uvs (v :: l) = b ++ uv v ++ uvs l := by simp [uvs]
    have hr := mReadU_mid b (uvs l) v (h v (by simp))
    have ih := mDec_more l (b ++ uv v) (acc ++ [(v : Int)]) (fun u hu => h u (List.mem_cons_of_mem _ hu))
    rw [e, List.length_cons, mDec, hr, if_pos rfl]
    show mDec _ (l.length + 1) ((b.length + (uv v).length : Nat) : Int) _ = _
    rw [← List.length_append, ih]
theorem mDI_back (l : List Nat) (h : ∀ v ∈ l, v ≤ 1000000000000) (hl : l.length ≤ 99) :
    mDI (mEnc (l.map fun (v : Nat) => (v : Int))) 0 (l.length : Int) = ⟨l.map fun (v : Nat) => (v : Int), ((mEnc (l.map fun (v : Nat) => (v : Int))).length : Int), true⟩ ∧ mDI (mEnc (l.map fun (v : Nat) => (v : Int))) 0 ((l.length : Int) + 1) = noD := by
  rw [mEnc_uvs l h]
  constructor
  · unfold mDI
    rw [if_pos ⟨inR_true.2 ⟨by omega, by omega⟩, inR_true.2 ⟨by omega, by omega⟩⟩, Int.toNat_natCast]
    have := mDec_uvs l [] [] h
    simpa using this
  · unfold mDI
    rw [if_pos ⟨inR_true.2 ⟨by omega, by omega⟩, inR_true.2 ⟨by omega, by omega⟩⟩, show ((l.length : Int) + 1).toNat = l.length + 1 by omega]
    have := mDec_more l [] [] h
    simpa using this
end Go.Proofs.Ytblmdjdaiilmmaa
