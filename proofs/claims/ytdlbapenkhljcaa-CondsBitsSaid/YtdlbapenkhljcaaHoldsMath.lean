/-
  The document's answer for conds.Holds: the plain mathematics, and its contract.
-/
import Derived.Test.YtdlbapenkhljcaaHolds
namespace Go.Proofs.Ytdlbapenkhljcaa
open Go.RowKit

def hi64 : BitVec 64 := 1#64 <<< 63
def hi32 : BitVec 64 := 1#64 <<< 31
theorem hi64_ne : ¬ N hi64 = 0 := by decide
theorem hi32_ne : ¬ N hi32 = 0 := by decide
theorem refPower64 (w : World) : Calls Try.prog 31 #[.int .i64 63] w fun e w' => e = .returned (.int .u64 (N hi64)) ∧ w = w' := refPower_N 63 w (by decide) (by decide)
theorem refPower32 (w : World) : Calls Try.prog 31 #[.int .i64 31] w fun e w' => e = .returned (.int .u64 (N hi32)) ∧ w = w' := refPower_N 31 w (by decide) (by decide)
theorem retB {a b : Bool} (h : a = b) : Ending.returned (.bool a) = .returned (.bool b) := by rw [h]

theorem cmpI_lt (x y : Int) : cmpI x y < 0 ↔ x < y := by unfold cmpI; split <;> (try split) <;> omega
theorem cmpI_gt (x y : Int) : 0 < cmpI x y ↔ y < x := by unfold cmpI; split <;> (try split) <;> omega
theorem cmpI_eq (x y : Int) : cmpI x y = 0 ↔ x = y := by unfold cmpI; split <;> (try split) <;> omega
theorem cmpI_le (x y : Int) : cmpI x y ≤ 0 ↔ x ≤ y := by unfold cmpI; split <;> (try split) <;> omega
theorem cmpI_ge (x y : Int) : 0 ≤ cmpI x y ↔ y ≤ x := by unfold cmpI; split <;> (try split) <;> omega
theorem ds_eq (x y : Int) : (x == y) = decide (cmpI x y = 0) := by rw [Bool.eq_iff_iff]; simp [cmpI_eq]
theorem ds_ne (x y : Int) : (x != y) = !decide (cmpI x y = 0) := by rw [Bool.eq_iff_iff]; simp [cmpI_eq]
theorem ds_gt (x y : Int) : decide (y < x) = decide (0 < cmpI x y) := by rw [Bool.eq_iff_iff]; simp [cmpI_gt]
theorem ds_ge (x y : Int) : decide (y ≤ x) = decide (0 ≤ cmpI x y) := by rw [Bool.eq_iff_iff]; simp [cmpI_ge]
theorem ds_lt (x y : Int) : decide (x < y) = decide (cmpI x y < 0) := by rw [Bool.eq_iff_iff]; simp [cmpI_lt]
theorem ds_le (x y : Int) : decide (x ≤ y) = decide (cmpI x y ≤ 0) := by rw [Bool.eq_iff_iff]; simp [cmpI_le]
theorem t_gt (a b : BitVec 64) : decide (0 < N (a &&& b)) = !(a &&& b == 0#64) := by
  rw [← N_and_beq, Bool.eq_iff_iff]
  have := N_nonneg (a &&& b)
  simp; omega

/-- What the document holds against each other for numbers with a sign. -/
def turned (h x : BitVec 64) : BitVec 64 := (x + h) % h + h - x / h * h
theorem turned_nat64 (n : Nat) (hx : n < 18446744073709551616) : (((n + 9223372036854775808) % 18446744073709551616 % 9223372036854775808 + 9223372036854775808) % 18446744073709551616 + (18446744073709551616 - (n / 9223372036854775808 * 9223372036854775808) % 18446744073709551616)) % 18446744073709551616 = if n < 9223372036854775808 then n + 9223372036854775808 else n - 9223372036854775808 := by
  split
  · omega
  · omega
theorem turned_nat32 (n : Nat) (hx : n < 4294967296) : (((n + 2147483648) % 18446744073709551616 % 2147483648 + 2147483648) % 18446744073709551616 + (18446744073709551616 - (n / 2147483648 * 2147483648) % 18446744073709551616)) % 18446744073709551616 = if n < 2147483648 then n + 2147483648 else n - 2147483648 := by
  split
  · omega
  · omega
theorem turned_toNat (h x : BitVec 64) : (turned h x).toNat = (((x.toNat + h.toNat) % 2 ^ 64 % h.toNat + h.toNat) % 2 ^ 64 + (2 ^ 64 - (x.toNat / h.toNat * h.toNat) % 2 ^ 64)) % 2 ^ 64 := by
  unfold turned
  rw [BitVec.toNat_sub, BitVec.toNat_add, BitVec.toNat_mul, BitVec.toNat_udiv, BitVec.toNat_umod, BitVec.toNat_add, Nat.add_comm]
theorem turned64 (x : BitVec 64) : N (turned hi64 (lowS x 64)) = Z (signS (lowS x 64) 64) + 9223372036854775808 := by
  rw [low64, sign64]
  have e : hi64.toNat = 9223372036854775808 := by decide
  have h2 := turned_toNat hi64 x
  rw [e] at h2
  have h3 := turned_nat64 x.toNat x.isLt
  unfold N Z
  rw [BitVec.toInt_eq_toNat_cond, h2]
  generalize x.toNat = n at *
  rw [show (2 : Nat) ^ 64 = 18446744073709551616 from rfl, h3]
  by_cases h : n < 9223372036854775808
  · rw [if_pos h, if_pos (by omega)]; omega
  · rw [if_neg h, if_neg (by omega)]; omega
theorem signS32_Z (x : BitVec 64) : Z (signS (lowS x 32) 32) = if x.toNat % 4294967296 < 2147483648 then ((x.toNat % 4294967296 : Nat) : Int) else ((x.toNat % 4294967296 : Nat) : Int) - 4294967296 := by
  have hl : (lowS x 32).toNat = x.toNat % 4294967296 := low_toNat x 32 (by decide) (by decide)
  have hl2 : lowS (lowS x 32) 32 = lowS x 32 := by rw [low32, low32, half_id]
  unfold Z
  by_cases h : x.toNat % 4294967296 < 2147483648
  · rw [if_pos h, ← sign_plain (lowS x 32) 32 (by decide) (by decide) (by rw [hl2]; unfold N; rw [hl]; show ((x.toNat % 4294967296 : Nat) : Int) < 2147483648; omega), hl2, BitVec.toInt_eq_toNat_cond, hl]
    rw [if_pos (by omega)]
  · rw [if_neg h, ← sign_minus (lowS x 32) 32 (by decide) (by decide) (by rw [hl2]; unfold N; rw [hl]; show ¬ ((x.toNat % 4294967296 : Nat) : Int) < 2147483648; omega), hl2, BitVec.toInt_eq_toNat_cond]
    have e : (1#64 <<< (32 : Int).toNat).toNat = 4294967296 := by decide
    rw [BitVec.toNat_sub, hl, e]
    rw [if_neg (by omega)]
    omega
theorem turned32 (x : BitVec 64) : N (turned hi32 (lowS x 32)) = Z (signS (lowS x 32) 32) + 2147483648 := by
  rw [signS32_Z]
  have hl : (lowS x 32).toNat = x.toNat % 4294967296 := low_toNat x 32 (by decide) (by decide)
  have e : hi32.toNat = 2147483648 := by decide
  have h2 := turned_toNat hi32 (lowS x 32)
  rw [e, hl] at h2
  have h3 := turned_nat32 (x.toNat % 4294967296) (Nat.mod_lt _ (by decide))
  unfold N
  rw [h2]
  generalize x.toNat % 4294967296 = n at *
  rw [show (2 : Nat) ^ 64 = 18446744073709551616 from rfl, h3]
  by_cases h : n < 2147483648
  · rw [if_pos h, if_pos h]; omega
  · rw [if_neg h, if_neg h]; omega
theorem c_gt64 (a b : BitVec 64) : decide (N (turned hi64 (lowS b 64)) < N (turned hi64 (lowS a 64))) = decide (0 < gO true a b) := by
  rw [turned64, turned64, Bool.eq_iff_iff, decide_eq_true_iff, decide_eq_true_iff]
  show _ ↔ 0 < cmpI (Z (signS (lowS a 64) 64)) (Z (signS (lowS b 64) 64))
  rw [cmpI_gt]
  omega
theorem c_ge64 (a b : BitVec 64) : decide (N (turned hi64 (lowS b 64)) ≤ N (turned hi64 (lowS a 64))) = decide (0 ≤ gO true a b) := by
  rw [turned64, turned64, Bool.eq_iff_iff, decide_eq_true_iff, decide_eq_true_iff]
  show _ ↔ 0 ≤ cmpI (Z (signS (lowS a 64) 64)) (Z (signS (lowS b 64) 64))
  rw [cmpI_ge]
  omega
theorem c_lt64 (a b : BitVec 64) : decide (N (turned hi64 (lowS a 64)) < N (turned hi64 (lowS b 64))) = decide (gO true a b < 0) := by
  rw [turned64, turned64, Bool.eq_iff_iff, decide_eq_true_iff, decide_eq_true_iff]
  show _ ↔ cmpI (Z (signS (lowS a 64) 64)) (Z (signS (lowS b 64) 64)) < 0
  rw [cmpI_lt]
  omega
theorem c_le64 (a b : BitVec 64) : decide (N (turned hi64 (lowS a 64)) ≤ N (turned hi64 (lowS b 64))) = decide (gO true a b ≤ 0) := by
  rw [turned64, turned64, Bool.eq_iff_iff, decide_eq_true_iff, decide_eq_true_iff]
  show _ ↔ cmpI (Z (signS (lowS a 64) 64)) (Z (signS (lowS b 64) 64)) ≤ 0
  rw [cmpI_le]
  omega
theorem c_gt32 (a b : BitVec 64) : decide (N (turned hi32 (lowS b 32)) < N (turned hi32 (lowS a 32))) = decide (0 < gO false a b) := by
  rw [turned32, turned32, Bool.eq_iff_iff, decide_eq_true_iff, decide_eq_true_iff]
  show _ ↔ 0 < cmpI (Z (signS (lowS a 32) 32)) (Z (signS (lowS b 32) 32))
  rw [cmpI_gt]
  omega
theorem c_ge32 (a b : BitVec 64) : decide (N (turned hi32 (lowS b 32)) ≤ N (turned hi32 (lowS a 32))) = decide (0 ≤ gO false a b) := by
  rw [turned32, turned32, Bool.eq_iff_iff, decide_eq_true_iff, decide_eq_true_iff]
  show _ ↔ 0 ≤ cmpI (Z (signS (lowS a 32) 32)) (Z (signS (lowS b 32) 32))
  rw [cmpI_ge]
  omega
theorem c_lt32 (a b : BitVec 64) : decide (N (turned hi32 (lowS a 32)) < N (turned hi32 (lowS b 32))) = decide (gO false a b < 0) := by
  rw [turned32, turned32, Bool.eq_iff_iff, decide_eq_true_iff, decide_eq_true_iff]
  show _ ↔ cmpI (Z (signS (lowS a 32) 32)) (Z (signS (lowS b 32) 32)) < 0
  rw [cmpI_lt]
  omega
theorem c_le32 (a b : BitVec 64) : decide (N (turned hi32 (lowS a 32)) ≤ N (turned hi32 (lowS b 32))) = decide (gO false a b ≤ 0) := by
  rw [turned32, turned32, Bool.eq_iff_iff, decide_eq_true_iff, decide_eq_true_iff]
  show _ ↔ cmpI (Z (signS (lowS a 32) 32)) (Z (signS (lowS b 32) 32)) ≤ 0
  rw [cmpI_le]
  omega
end Go.Proofs.Ytdlbapenkhljcaa
