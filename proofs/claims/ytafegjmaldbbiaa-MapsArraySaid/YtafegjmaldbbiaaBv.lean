/-
  Numbers of fixed width in a walk: 'N v' is a BitVec as Go's unsigned number, 'Z v' as its signed one. Rules that keep a walk's slots in these forms.
-/
import Derived.WalkKit
import Derived.WalkSpells
import Derived.WalkLawsBesides
namespace Go.Proofs.Ytafegjmaldbbiaa
open Go.RowKit

def N {w : Nat} (v : BitVec w) : Int := (v.toNat : Int)
def Z {w : Nat} (v : BitVec w) : Int := v.toInt

theorem N_nonneg {w : Nat} (v : BitVec w) : 0 ≤ N v := by unfold N; omega
theorem N_lt {w : Nat} (v : BitVec w) : N v < 2 ^ w := by
  unfold N; exact_mod_cast v.isLt
theorem N_inj {w : Nat} {a b : BitVec w} (h : N a = N b) : a = b := BitVec.eq_of_toNat_eq (by unfold N at h; omega)
theorem N_eq_iff {w : Nat} (a b : BitVec w) : N a = N b ↔ a = b := ⟨N_inj, fun h => by rw [h]⟩
theorem N_beq {w : Nat} (a b : BitVec w) : (N a == N b) = (a == b) := by
  rw [Bool.eq_iff_iff]; simp [N_eq_iff]
theorem ofInt_N {w : Nat} (v : BitVec w) : BitVec.ofInt w (N v) = v := by
  unfold N; rw [BitVec.ofInt_natCast]; simp
theorem N_ofInt {w : Nat} (x : Int) (h0 : 0 ≤ x) (h1 : x < 2 ^ w) : N (BitVec.ofInt w x) = x := by
  unfold N
  obtain ⟨n, rfl⟩ := Int.eq_ofNat_of_zero_le h0
  have h1' : n < 2 ^ w := by exact_mod_cast h1
  rw [BitVec.ofInt_natCast, BitVec.toNat_ofNat, Nat.mod_eq_of_lt h1']

theorem N_ofNat (w n : Nat) : N (BitVec.ofNat w n) = ((n % 2 ^ w : Nat) : Int) := by unfold N; simp

/-! Wraps. -/
theorem N_ofInt_mod (w : Nat) (x : Int) : N (BitVec.ofInt w x) = x % (2 ^ w : Nat) := by
  unfold N
  rw [BitVec.toNat_ofInt]
  have : (0 : Int) ≤ x % (2 ^ w : Nat) := Int.emod_nonneg _ (by have := Nat.two_pow_pos w; omega)
  omega
theorem u64_wrap (x : Int) : IntKind.u64.wrap x = N (BitVec.ofInt 64 x) := by
  rw [N_ofInt_mod]; simp [IntKind.wrap, IntKind.bits, IntKind.signed]
theorem u32_wrap (x : Int) : IntKind.u32.wrap x = N (BitVec.ofInt 32 x) := by
  rw [N_ofInt_mod]; simp [IntKind.wrap, IntKind.bits, IntKind.signed]
theorem u16_wrap (x : Int) : IntKind.u16.wrap x = N (BitVec.ofInt 16 x) := by
  rw [N_ofInt_mod]; simp [IntKind.wrap, IntKind.bits, IntKind.signed]
theorem u8_wrap (x : Int) : IntKind.u8.wrap x = N (BitVec.ofInt 8 x) := by
  rw [N_ofInt_mod]; simp [IntKind.wrap, IntKind.bits, IntKind.signed]
theorem ofInt_sub' (w : Nat) (x y : Int) : BitVec.ofInt w (x - y) = BitVec.ofInt w x - BitVec.ofInt w y := by
  apply BitVec.eq_of_toInt_eq
  rw [BitVec.toInt_sub, BitVec.toInt_ofInt, BitVec.toInt_ofInt, BitVec.toInt_ofInt, Int.bmod_sub_bmod, Int.sub_bmod_bmod]
theorem ofInt_Nw (w : Nat) {k : Nat} (v : BitVec k) : BitVec.ofInt w (N v) = v.setWidth w := by
  unfold N; rw [BitVec.ofInt_natCast]; simp
theorem ofInt_Z (w : Nat) {k : Nat} (v : BitVec k) : BitVec.ofInt w (Z v) = v.signExtend w := rfl
theorem wrap64_N (v : BitVec 64) : wrap64 (N v) = Z v := by
  unfold wrap64 N Z
  have := v.isLt
  rw [BitVec.toInt_eq_toNat_cond]
  split <;> omega
theorem Z_ofInt (x : Int) : Z (BitVec.ofInt 64 x) = wrap64 x := by
  unfold wrap64 Z
  rw [BitVec.toInt_ofInt]
  simp [Int.bmod_def]
  omega
theorem wrap64_small {k : Nat} (v : BitVec k) (h : k < 64) : wrap64 (N v) = N v := by
  have h1 := N_lt v
  have h0 := N_nonneg v
  have h2 : (2 : Int) ^ k ≤ 2 ^ 63 := by exact_mod_cast Nat.pow_le_pow_right (n := 2) (by decide) (show k ≤ 63 by omega)
  unfold wrap64
  omega

/-! Bits. -/
theorem u64_and (x y : Int) : bits .and .u64 x y = N (BitVec.ofInt 64 x &&& BitVec.ofInt 64 y) := by
  show IntKind.u64.wrap (((BitVec.ofInt 64 x &&& BitVec.ofInt 64 y).toNat : Nat) : Int) = _
  rw [u64_wrap, BitVec.ofInt_natCast, BitVec.ofNat_toNat, BitVec.setWidth_eq]
theorem u64_or (x y : Int) : bits .or .u64 x y = N (BitVec.ofInt 64 x ||| BitVec.ofInt 64 y) := by
  show IntKind.u64.wrap (((BitVec.ofInt 64 x ||| BitVec.ofInt 64 y).toNat : Nat) : Int) = _
  rw [u64_wrap, BitVec.ofInt_natCast, BitVec.ofNat_toNat, BitVec.setWidth_eq]
theorem u64_xor (x y : Int) : bits .xor .u64 x y = N (BitVec.ofInt 64 x ^^^ BitVec.ofInt 64 y) := by
  show IntKind.u64.wrap (((BitVec.ofInt 64 x ^^^ BitVec.ofInt 64 y).toNat : Nat) : Int) = _
  rw [u64_wrap, BitVec.ofInt_natCast, BitVec.ofNat_toNat, BitVec.setWidth_eq]
theorem u64_andNot (x y : Int) : bits .andNot .u64 x y = N (BitVec.ofInt 64 x &&& ~~~BitVec.ofInt 64 y) := by
  show IntKind.u64.wrap (((BitVec.ofInt 64 x &&& ~~~BitVec.ofInt 64 y).toNat : Nat) : Int) = _
  rw [u64_wrap, BitVec.ofInt_natCast, BitVec.ofNat_toNat, BitVec.setWidth_eq]
theorem u32_and (x y : Int) : bits .and .u32 x y = N (BitVec.ofInt 32 x &&& BitVec.ofInt 32 y) := by
  show IntKind.u32.wrap (((BitVec.ofInt 32 x &&& BitVec.ofInt 32 y).toNat : Nat) : Int) = _
  rw [u32_wrap, BitVec.ofInt_natCast, BitVec.ofNat_toNat, BitVec.setWidth_eq]
theorem u32_or (x y : Int) : bits .or .u32 x y = N (BitVec.ofInt 32 x ||| BitVec.ofInt 32 y) := by
  show IntKind.u32.wrap (((BitVec.ofInt 32 x ||| BitVec.ofInt 32 y).toNat : Nat) : Int) = _
  rw [u32_wrap, BitVec.ofInt_natCast, BitVec.ofNat_toNat, BitVec.setWidth_eq]
theorem u32_xor (x y : Int) : bits .xor .u32 x y = N (BitVec.ofInt 32 x ^^^ BitVec.ofInt 32 y) := by
  show IntKind.u32.wrap (((BitVec.ofInt 32 x ^^^ BitVec.ofInt 32 y).toNat : Nat) : Int) = _
  rw [u32_wrap, BitVec.ofInt_natCast, BitVec.ofNat_toNat, BitVec.setWidth_eq]
theorem u8_and (x y : Int) : bits .and .u8 x y = N (BitVec.ofInt 8 x &&& BitVec.ofInt 8 y) := by
  show IntKind.u8.wrap (((BitVec.ofInt 8 x &&& BitVec.ofInt 8 y).toNat : Nat) : Int) = _
  rw [u8_wrap, BitVec.ofInt_natCast, BitVec.ofNat_toNat, BitVec.setWidth_eq]
theorem u8_or (x y : Int) : bits .or .u8 x y = N (BitVec.ofInt 8 x ||| BitVec.ofInt 8 y) := by
  show IntKind.u8.wrap (((BitVec.ofInt 8 x ||| BitVec.ofInt 8 y).toNat : Nat) : Int) = _
  rw [u8_wrap, BitVec.ofInt_natCast, BitVec.ofNat_toNat, BitVec.setWidth_eq]

/-! Quotients and shifts. -/
theorem N_tdiv {w : Nat} (a b : BitVec w) : (N a).tdiv (N b) = N (a / b) := by
  unfold N; rw [BitVec.toNat_udiv, Int.natCast_ediv, Int.tdiv_eq_ediv_of_nonneg (by omega)]
theorem N_ediv {w : Nat} (a b : BitVec w) : N a / N b = N (a / b) := by
  unfold N; rw [BitVec.toNat_udiv, Int.natCast_ediv]
theorem N_tmod {w : Nat} (a b : BitVec w) : (N a).tmod (N b) = N (a % b) := by
  unfold N; rw [BitVec.toNat_umod, Int.natCast_emod, Int.tmod_eq_emod_of_nonneg (by omega)]
theorem N_emod {w : Nat} (a b : BitVec w) : N a % N b = N (a % b) := by
  unfold N; rw [BitVec.toNat_umod, Int.natCast_emod]
theorem N_shr {w : Nat} (a : BitVec w) (n : Nat) : N a / 2 ^ n = N (a >>> n) := by
  unfold N; rw [BitVec.toNat_ushiftRight, Nat.shiftRight_eq_div_pow]; simp
theorem Z_shr {w : Nat} (a : BitVec w) (n : Nat) : Z a / 2 ^ n = Z (a.sshiftRight n) := by
  unfold Z; rw [BitVec.toInt_sshiftRight, Int.shiftRight_eq_div_pow]; simp
theorem ofInt_shl (w : Nat) (x : Int) (n : Nat) : BitVec.ofInt w (x * 2 ^ n) = BitVec.ofInt w x <<< n := by
  rw [BitVec.ofInt_mul, BitVec.shiftLeft_eq_mul_twoPow]
  congr 1
  have : (2 : Int) ^ n = ((2 ^ n : Nat) : Int) := by simp
  rw [this, BitVec.ofInt_natCast]
  apply BitVec.eq_of_toNat_eq; simp
theorem ofInt_pow (w : Nat) (n : Nat) : BitVec.ofInt w (2 ^ n) = 1#w <<< n := by
  have := ofInt_shl w 1 n
  rw [Int.one_mul] at this; rw [this]; congr 1
theorem mul_shl1 {w : Nat} (v : BitVec w) (n : Nat) : v * 1#w <<< n = v <<< n := by
  rw [BitVec.shiftLeft_eq_mul_twoPow, BitVec.shiftLeft_eq_mul_twoPow]
  rw [BitVec.one_mul]
theorem N_div8 {w : Nat} (v : BitVec w) : N v / (256 : Int) = N (v >>> 8) := N_shr v 8
theorem N_div16 {w : Nat} (v : BitVec w) : N v / (65536 : Int) = N (v >>> 16) := N_shr v 16
theorem N_div24 {w : Nat} (v : BitVec w) : N v / (16777216 : Int) = N (v >>> 24) := N_shr v 24
theorem N_div32 {w : Nat} (v : BitVec w) : N v / (4294967296 : Int) = N (v >>> 32) := N_shr v 32
theorem N_div40 {w : Nat} (v : BitVec w) : N v / (1099511627776 : Int) = N (v >>> 40) := N_shr v 40
theorem N_div48 {w : Nat} (v : BitVec w) : N v / (281474976710656 : Int) = N (v >>> 48) := N_shr v 48
theorem N_div56 {w : Nat} (v : BitVec w) : N v / (72057594037927936 : Int) = N (v >>> 56) := N_shr v 56
theorem ofInt8_tmod256 (x : BitVec 64) : BitVec.ofInt 8 ((N x).tmod 256) = x.setWidth 8 := by
  have e : (N x).tmod 256 = ((x.toNat % 256 : Nat) : Int) := by
    unfold N; rw [Int.tmod_eq_emod_of_nonneg (by omega)]; omega
  rw [e, BitVec.ofInt_natCast]
  apply BitVec.eq_of_toNat_eq
  simp
theorem N_tdiv256 (x : BitVec 64) : (N x).tdiv 256 = N (x >>> 8) := by
  have e : (N x).tdiv 256 = N x / (256 : Int) := by
    unfold N; rw [Int.tdiv_eq_ediv_of_nonneg (by omega)]
  rw [e, N_div8]

end Go.Proofs.Ytafegjmaldbbiaa
