/-
  What the law SpansDo asks of the twelve results: each has ends in order, and has what comes of the two numbers.
-/
import Derived.Test.YtchjneodjaakdaaSpMath
import Derived.Test.YtchjneodjaakdaaAluMath
namespace Go.Proofs.Ytchjneodjaakdaa
open Go.Proofs.Ytchjneodjaakdaa.Spn

/-- A result's ends are in order, and the number is in it. -/
def SpGood (r : Sp) (v : BitVec 64) : Prop := SValid r ∧ SHas r v

section
variable {a b : Sp} {x y : BitVec 64}
theorem good_add (ha : SHas a x) (hb : SHas b y) : SpGood (addR (settledS a) (settledS b)) (aluW 0 x y) :=
  ⟨settled_valid _, addR_has (settled_has ha) (settled_has hb)⟩
theorem good_sub (ha : SHas a x) (hb : SHas b y) : SpGood (subR (settledS a) (settledS b)) (aluW 16 x y) :=
  ⟨settled_valid _, subR_has (settled_has ha) (settled_has hb)⟩
theorem good_mul (ha : SHas a x) (hb : SHas b y) : SpGood (mulR (settledS a) (settledS b)) (aluW 32 x y) :=
  ⟨settled_valid _, mulR_has (settled_has ha) (settled_has hb)⟩
theorem good_and (ha : SHas a x) (hb : SHas b y) : SpGood (andR (settledS a) (settledS b)) (aluW 80 x y) :=
  ⟨settled_valid _, andR_has (settled_has ha) (settled_has hb)⟩
theorem good_or (ha : SHas a x) (hb : SHas b y) : SpGood (orR (settledS a) (settledS b)) (aluW 64 x y) :=
  ⟨settled_valid _, orR_has (settled_has ha) (settled_has hb)⟩
theorem good_xor (ha : SHas a x) (hb : SHas b y) : SpGood (xorR (settledS a) (settledS b)) (aluW 160 x y) :=
  ⟨settled_valid _, xorR_has (settled_has ha) (settled_has hb)⟩
theorem good_div (ha : SHas a x) (hb : SHas b y) : SpGood (divR (settledS a) (settledS b)) (aluW 48 x y) := by
  refine ⟨?_, divR_has (settled_has ha) (settled_has hb)⟩
  unfold divR
  split
  · exact const_valid _
  · exact settled_valid _
theorem good_mod (ha : SHas a x) (hb : SHas b y) : SpGood (modR (settledS a) (settledS b)) (aluW 144 x y) := by
  refine ⟨?_, ?_⟩
  · unfold modR
    split
    · exact settled_valid _
    · exact settled_valid _
  · have h := modR_has (settled_has ha) (settled_has hb)
    have e : (if y = 0#64 then x else x % y) = aluW 144 x y := by
      show _ = x % y
      split
      · rename_i h0
        subst h0
        simp
      · rfl
    rwa [e] at h
theorem kmod (n : Int) : (BitVec.ofInt 64 (n % 64)).toNat % 64 = (n % 64).toNat := by
  rw [BitVec.toNat_ofInt]
  omega
theorem good_lsh (n : Int) (ha : SHas a x) : SpGood (lshR (settledS a) (n % 64).toNat) (aluW 96 x (BitVec.ofInt 64 (n % 64))) := by
  refine ⟨settled_valid _, ?_⟩
  have e : aluW 96 x (BitVec.ofInt 64 (n % 64)) = x <<< (n % 64).toNat := by
    show x <<< ((BitVec.ofInt 64 (n % 64)).toNat % 64) = _
    rw [kmod]
  rw [e]
  exact lshR_has _ (settled_has ha)
theorem good_rsh (n : Int) (ha : SHas a x) : SpGood (rshR (settledS a) (n % 64).toNat) (aluW 112 x (BitVec.ofInt 64 (n % 64))) := by
  have e : aluW 112 x (BitVec.ofInt 64 (n % 64)) = x >>> (n % 64).toNat := by
    show x >>> ((BitVec.ofInt 64 (n % 64)).toNat % 64) = _
    rw [kmod]
  rw [e]
  refine ⟨?_, rshR_has _ (settled_has ha)⟩
  unfold rshR
  split
  · exact settled_valid _
  · exact settled_valid _
theorem good_arsh (n : Int) (ha : SHas a x) : SpGood (arshR (settledS a) (n % 64).toNat) (aluW 192 x (BitVec.ofInt 64 (n % 64))) := by
  have e : aluW 192 x (BitVec.ofInt 64 (n % 64)) = x.sshiftRight (n % 64).toNat := by
    show x.sshiftRight ((BitVec.ofInt 64 (n % 64)).toNat % 64) = _
    rw [kmod]
  rw [e]
  refine ⟨?_, arshR_has _ (settled_has ha)⟩
  unfold arshR
  split
  · exact settled_valid _
  · exact settled_valid _
theorem good_low32 (ha : SHas a x) : SpGood (low32R (settledS a)) (aluW 80 x 4294967295#64) := by
  refine ⟨?_, low32R_has (settled_has ha)⟩
  unfold low32R
  split
  · exact settled_valid _
  · exact upto_valid _
end
end Go.Proofs.Ytchjneodjaakdaa
