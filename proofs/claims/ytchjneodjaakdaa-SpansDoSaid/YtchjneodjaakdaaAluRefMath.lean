/-
  What 32 bits within 64 come to: the document's way and the program's are one. No Go in sight.
-/
import Derived.Test.YtchjneodjaakdaaAluMath
namespace Go.Proofs.Ytchjneodjaakdaa

theorem half_of {R : BitVec 64} {r : BitVec 32} (h : R.setWidth 32 = r) : lowS R 32 = r.setWidth 64 := by rw [low32, h]
theorem half_add (a b : BitVec 32) : (a.setWidth 64 + b.setWidth 64).setWidth 32 = a + b := by
  apply BitVec.eq_of_toNat_eq; simp
theorem half_sub (a b : BitVec 32) : (a.setWidth 64 - b.setWidth 64).setWidth 32 = a - b := by
  apply BitVec.eq_of_toNat_eq; simp [BitVec.toNat_sub]; omega
theorem half_neg (a : BitVec 32) : (0#64 - a.setWidth 64).setWidth 32 = -a := by
  apply BitVec.eq_of_toNat_eq; simp
theorem half_mul (a b : BitVec 32) : (a.setWidth 64 * b.setWidth 64).setWidth 32 = a * b := by
  apply BitVec.eq_of_toNat_eq
  have h1 := a.isLt
  have h2 := b.isLt
  simp only [BitVec.toNat_setWidth, BitVec.toNat_mul]
  rw [Nat.mod_eq_of_lt (a := a.toNat) (by omega), Nat.mod_eq_of_lt (a := b.toNat) (by omega)]
  exact Nat.mod_mod_of_dvd _ (by decide)
theorem half_div (a b : BitVec 32) : (a.setWidth 64 / b.setWidth 64).setWidth 32 = a / b := by
  apply BitVec.eq_of_toNat_eq
  have h1 := a.isLt
  have h2 := b.isLt
  have h3 : a.toNat / b.toNat ≤ a.toNat := Nat.div_le_self _ _
  simp only [BitVec.toNat_setWidth, BitVec.toNat_udiv]
  rw [Nat.mod_eq_of_lt (a := a.toNat) (by omega), Nat.mod_eq_of_lt (a := b.toNat) (by omega), Nat.mod_eq_of_lt (by omega)]
theorem half_mod (a b : BitVec 32) : (a.setWidth 64 % b.setWidth 64).setWidth 32 = a % b := by
  apply BitVec.eq_of_toNat_eq
  have h1 := a.isLt
  have h2 := b.isLt
  have h3 : a.toNat % b.toNat ≤ a.toNat := Nat.mod_le _ _
  simp only [BitVec.toNat_setWidth, BitVec.toNat_umod]
  rw [Nat.mod_eq_of_lt (a := a.toNat) (by omega), Nat.mod_eq_of_lt (a := b.toNat) (by omega), Nat.mod_eq_of_lt (by omega)]
theorem half_or (a b : BitVec 32) : (a.setWidth 64 ||| b.setWidth 64).setWidth 32 = a ||| b := by
  apply BitVec.eq_of_getLsbD_eq; intro i hi; simp [hi]
theorem half_and (a b : BitVec 32) : (a.setWidth 64 &&& b.setWidth 64).setWidth 32 = a &&& b := by
  apply BitVec.eq_of_getLsbD_eq; intro i hi; simp [hi]
theorem half_xor (a b : BitVec 32) : (a.setWidth 64 ^^^ b.setWidth 64).setWidth 32 = a ^^^ b := by
  apply BitVec.eq_of_getLsbD_eq; intro i hi; simp [hi]
theorem half_shl (a : BitVec 32) (m : Nat) : (a.setWidth 64 <<< m).setWidth 32 = a <<< m := by
  apply BitVec.eq_of_getLsbD_eq
  intro i hi
  rw [BitVec.getLsbD_setWidth, BitVec.getLsbD_shiftLeft, BitVec.getLsbD_shiftLeft, BitVec.getLsbD_setWidth]
  simp only [hi, show i < 64 by omega, show i - m < 64 by omega, decide_true, Bool.true_and]
theorem half_shr (a : BitVec 32) (m : Nat) : (a.setWidth 64 >>> m).setWidth 32 = a >>> m := by
  apply BitVec.eq_of_getLsbD_eq
  intro i hi
  rw [BitVec.getLsbD_setWidth, BitVec.getLsbD_ushiftRight, BitVec.getLsbD_ushiftRight, BitVec.getLsbD_setWidth]
  by_cases h : m + i < 64
  · simp only [hi, h, decide_true, Bool.true_and]
  · simp only [h, decide_false, Bool.false_and, Bool.and_false]
    exact (BitVec.getLsbD_of_ge a _ (by omega)).symm
theorem half_id (a : BitVec 32) : (a.setWidth 64).setWidth 32 = a := by
  apply BitVec.eq_of_toNat_eq; simp
theorem half_sar (a : BitVec 32) (m : Nat) (hm : m < 32) : (signS (a.setWidth 64 >>> m) (32 - (m : Int))).setWidth 32 = a.sshiftRight m := by
  apply BitVec.eq_of_getLsbD_eq
  intro i hi
  rw [BitVec.getLsbD_setWidth, sign_bit _ _ i (by omega) (by omega), BitVec.getLsbD_sshiftRight, BitVec.getLsbD_ushiftRight, BitVec.getLsbD_ushiftRight, BitVec.getLsbD_setWidth, BitVec.getLsbD_setWidth, BitVec.msb_eq_getLsbD_last]
  by_cases h : m + i < 32
  · have h' : (i : Int) < 32 - (m : Int) := by omega
    simp only [hi, h, h', if_true, show m + i < 64 by omega, show ¬ 32 ≤ i by omega, decide_true, decide_false, Bool.true_and, Bool.not_false]
  · have h' : ¬ (i : Int) < 32 - (m : Int) := by omega
    simp only [hi, h, h', if_false, show m + ((32 - (m : Int)).toNat - 1) = 31 by omega, show ¬ 32 ≤ i by omega, decide_true, decide_false, Bool.true_and, Bool.not_false]
    rfl
theorem wide_sar (a : BitVec 64) (m : Nat) (hm : m < 64) : signS (a >>> m) (64 - (m : Int)) = a.sshiftRight m := by
  apply BitVec.eq_of_getLsbD_eq
  intro i hi
  rw [sign_bit _ _ i (by omega) (by omega), BitVec.getLsbD_sshiftRight, BitVec.getLsbD_ushiftRight, BitVec.getLsbD_ushiftRight, BitVec.msb_eq_getLsbD_last]
  by_cases h : m + i < 64
  · have h' : (i : Int) < 64 - (m : Int) := by omega
    simp only [h, h', if_true, show ¬ 64 ≤ i by omega, decide_false, Bool.true_and, Bool.not_false]
  · have h' : ¬ (i : Int) < 64 - (m : Int) := by omega
    simp only [h, h', if_false, show m + ((64 - (m : Int)).toNat - 1) = 63 by omega, show ¬ 64 ≤ i by omega, decide_false, Bool.true_and, Bool.not_false]
theorem div_shl1 (a : BitVec 64) (m : Nat) (hm : m < 64) : a / (1#64 <<< m) = a >>> m := by
  have hp : 2 ^ m < 2 ^ 64 := Nat.pow_lt_pow_right (by decide) hm
  apply BitVec.eq_of_toNat_eq
  rw [BitVec.toNat_udiv, BitVec.toNat_ushiftRight, Nat.shiftRight_eq_div_pow, BitVec.toNat_shiftLeft]
  simp only [BitVec.toNat_ofNat, Nat.shiftLeft_eq]
  rw [Nat.mod_eq_of_lt (a := 1) (by decide), Nat.one_mul, Nat.mod_eq_of_lt hp]
theorem shl1_ne' (m : Nat) (hm : m < 64) : ¬ N (1#64 <<< m) = 0 := by
  have := shl1_ne m (by omega) (by omega)
  rwa [Int.toNat_natCast] at this
theorem N_set64 (a : BitVec 32) : N (a.setWidth 64) = N a := by
  unfold N; simp; omega
end Go.Proofs.Ytchjneodjaakdaa
