/-
  What the laws of layer 1 ask of the plain functions.
-/
import Derived.Test.YtkdnjphgmifkmaaNumsMath
namespace Go.Proofs.Ytkdnjphgmifkmaa

/-! What the laws ask. -/
theorem low_low (v : BitVec 64) (b : Int) : lowS (lowS v b) b = lowS v b := by
  apply BitVec.eq_of_getLsbD_eq
  intro i hi
  rw [low_bit, low_bit]; cases decide ((i : Int) < b) <;> rfl
theorem sign_sign (v : BitVec 64) (b : Int) (h0 : 0 < b) (h1 : b ≤ 64) : signS (signS v b) b = signS v b := by
  apply BitVec.eq_of_getLsbD_eq
  intro i hi
  rw [sign_bit _ b i h0 hi, sign_bit v b i h0 hi, sign_bit v b (b.toNat - 1) h0 (by omega)]
  have : ((b.toNat - 1 : Nat) : Int) < b := by omega
  rw [if_pos this]
  split <;> simp
theorem low_sign (v : BitVec 64) (b : Int) (h0 : 0 < b) : lowS (signS v b) b = lowS v b := by
  apply BitVec.eq_of_getLsbD_eq
  intro i hi
  rw [low_bit, low_bit, sign_bit v b i h0 hi]
  by_cases h : (i : Int) < b <;> simp [h]
theorem sign_low (v : BitVec 64) (b : Int) (h0 : 0 < b) (h1 : b ≤ 64) : signS (lowS v b) b = signS v b := by
  apply BitVec.eq_of_getLsbD_eq
  intro i hi
  rw [sign_bit _ b i h0 hi, sign_bit v b i h0 hi, low_bit, low_bit]
  have : ((b.toNat - 1 : Nat) : Int) < b := by omega
  by_cases h : (i : Int) < b <;> simp [h, this]
theorem num_bytes (v : BitVec 64) (n : Nat) (h : n ≤ 8) : numS (bytesN v n) = lowS v (8 * n : Nat) := by
  unfold numS
  rw [bytesN_size, show min n 8 = n by omega]
  apply BitVec.eq_of_getLsbD_eq
  intro i hi
  rw [numF_bit, low_bit]
  by_cases hn : i < 8 * n
  · have hn' : (i : Int) < (8 * n : Nat) := by omega
    rw [byteAt_bytesN v n _ (by omega)]
    unfold byteOf
    rw [BitVec.getLsbD_setWidth, BitVec.getLsbD_ushiftRight]
    simp only [hi, hn, hn', decide_true, Bool.true_and, show i % 8 < 8 by omega, show 8 * (i / 8) + i % 8 = i by omega]
  · have hn' : ¬ (i : Int) < (8 * n : Nat) := by omega
    simp only [hn, hn', decide_false, Bool.false_and, Bool.and_false]
theorem num_bytesS (v : BitVec 64) (n : Nat) (h : n ≤ 8) : numS (bytesS v n) = lowS v (8 * (n : Int)) := by
  unfold bytesS
  rw [if_neg (by omega), Int.toNat_natCast, num_bytes v n h]; rfl
theorem bytesS_size (v : BitVec 64) (n : Nat) (h : n ≤ 8) : (bytesS v n).size = n := by
  unfold bytesS
  rw [if_neg (by omega), Int.toNat_natCast, bytesN_size]
theorem bytesS_small (v : BitVec 64) (n : Int) : (bytesS v n).size ≤ 8 := by
  unfold bytesS
  split
  · decide
  · rw [bytesN_size]; omega
theorem num_bytes8 (v : BitVec 64) : numS (bytesN v 8) = v := by
  rw [num_bytes v 8 (by omega)]
  unfold lowS; rw [if_neg (by decide), if_pos (by decide)]
theorem sign_neg (v : BitVec 64) (b : Int) (h0 : 0 < b) (h1 : b ≤ 64) : (Z (signS v b) < 0) ↔ v.getLsbD (b.toNat - 1) = true := by
  have h := sign_bit v b 63 h0 (by omega)
  have e : (if ((63 : Nat) : Int) < b then v.getLsbD 63 else v.getLsbD (b.toNat - 1)) = v.getLsbD (b.toNat - 1) := by
    split
    · rw [show b.toNat - 1 = 63 by omega]
    · rfl
  rw [e] at h
  rw [← h]
  unfold Z
  have e2 := BitVec.msb_eq_toInt (x := signS v b)
  rw [BitVec.msb_eq_getLsbD_last] at e2
  rw [e2]; simp
theorem shr_bit (v : BitVec 64) (k : Nat) : ((N (v >>> k)).tmod 2 = 1) ↔ v.getLsbD k = true := by
  have e : (N (v >>> k)).tmod 2 = (((v >>> k).toNat % 2 : Nat) : Int) := by
    unfold N; rw [Int.tmod_eq_emod_of_nonneg (by omega)]; omega
  rw [e]
  rw [BitVec.toNat_ushiftRight, Nat.shiftRight_eq_div_pow, BitVec.getLsbD, Nat.testBit_eq_decide_div_mod_eq]
  generalize v.toNat / 2 ^ k = q
  rw [decide_eq_true_iff]
  omega
theorem sign_eq_low (v : BitVec 64) (b : Int) (h0 : 0 < b) (h1 : b ≤ 64) (h : v.getLsbD (b.toNat - 1) = false) : signS v b = lowS v b := by
  by_cases hb : b = 64
  · rw [sign_ge64 v b (by omega)]
  · rw [sign_of_low v b h0 (by omega), if_pos h]
theorem bytes_num (s : ByteArray) (h : s.size ≤ 8) : bytesS (numS s) s.size = s := by
  unfold bytesS
  rw [if_neg (by omega), Int.toNat_natCast]
  apply ByteArray.ext
  apply Array.toList_inj.1
  rw [bytesN_list]
  have hl : s.data.toList.length = s.size := by simp
  apply List.ext_getElem
  · simp [hl]
  · intro i h1 h2
    have hi : i < s.size := by rw [← hl]; exact h2
    rw [List.getElem_map, List.getElem_range]
    have e : byteOf (numS s) i = byteAt s i := by
      unfold byteOf numS
      apply BitVec.eq_of_getLsbD_eq
      intro j hj
      rw [BitVec.getLsbD_setWidth, BitVec.getLsbD_ushiftRight, numF_bit]
      simp only [hj, show 8 * i + j < 64 by omega, show 8 * i + j < 8 * min s.size 8 by omega, show (8 * i + j) / 8 = i by omega, show (8 * i + j) % 8 = j by omega, decide_true, Bool.true_and]
    rw [e]
    unfold byteAt
    rw [List.getD_eq_getElem?_getD, List.getElem?_eq_getElem h2]
    rfl
theorem numF_congr (f g : Nat → BitVec 8) (k : Nat) (h : ∀ i, i < k → f i = g i) : numF f k = numF g k := by
  induction k with
  | zero => rfl
  | succ k ih => rw [numF_succ, numF_succ, ih (fun i hi => h i (by omega)), h k (by omega)]
theorem num_behind (v : BitVec 64) (b : ByteArray) : numS (bytesN v 8 ++ b) = v := by
  have e : numS (bytesN v 8 ++ b) = numS (bytesN v 8) := by
    unfold numS
    rw [ByteArray.size_append, bytesN_size, show min (8 + b.size) 8 = 8 by omega, show min 8 8 = 8 by omega]
    apply numF_congr
    intro i hi
    unfold byteAt
    rw [List.getD_eq_getElem?_getD, List.getD_eq_getElem?_getD]
    have hl : (bytesN v 8).data.toList.length = 8 := by simp [bytesN_list]
    have : (bytesN v 8 ++ b).data.toList = (bytesN v 8).data.toList ++ b.data.toList := by simp
    rw [this, List.getElem?_append_left (by omega)]
  rw [e, num_bytes8]
end Go.Proofs.Ytkdnjphgmifkmaa
