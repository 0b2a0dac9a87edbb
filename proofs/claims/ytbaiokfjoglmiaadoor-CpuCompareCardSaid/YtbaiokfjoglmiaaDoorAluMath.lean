/-
  The plain mathematics of package alu: what arithmetic comes to, at any width. No Go in sight.
-/
import Derived.Test.YtbaiokfjoglmiaaDoorNumsMath
namespace Go.Proofs.YtbaiokfjoglmiaaDoor

/-- What arithmetic comes to, of numbers of w bits; x: the operation. -/
def aluW {w : Nat} (x : Int) (a b : BitVec w) : BitVec w :=
  if x = 0 then a + b else if x = 16 then a - b else if x = 32 then a * b else if x = 48 then a / b else if x = 144 then a % b
  else if x = 64 then a ||| b else if x = 80 then a &&& b else if x = 160 then a ^^^ b else if x = 96 then a <<< (b.toNat % w)
  else if x = 112 then a >>> (b.toNat % w) else if x = 192 then a.sshiftRight (b.toNat % w) else if x = 128 then -a else if x = 176 then b else 0#w
def aluS (x : Int) (wide : Bool) (a b : BitVec 64) : BitVec 64 :=
  if wide then aluW x a b else (aluW x (a.setWidth 32) (b.setWidth 32)).setWidth 64

/-- No operation at all. -/
def NoOp (x : Int) : Prop := ¬ x = 0 ∧ ¬ x = 16 ∧ ¬ x = 32 ∧ ¬ x = 48 ∧ ¬ x = 144 ∧ ¬ x = 64 ∧ ¬ x = 80 ∧ ¬ x = 160 ∧ ¬ x = 96 ∧ ¬ x = 112 ∧ ¬ x = 192 ∧ ¬ x = 128 ∧ ¬ x = 176
theorem alu_cases (x : Int) : x = 0 ∨ x = 16 ∨ x = 32 ∨ x = 48 ∨ x = 144 ∨ x = 64 ∨ x = 80 ∨ x = 160 ∨ x = 96 ∨ x = 112 ∨ x = 192 ∨ x = 128 ∨ x = 176 ∨ NoOp x := by
  unfold NoOp; omega
theorem aluW_none {w : Nat} {x : Int} (h : NoOp x) (a b : BitVec w) : aluW x a b = 0#w := by
  obtain ⟨h1, h2, h3, h4, h5, h6, h7, h8, h9, h10, h11, h12, h13⟩ := h
  unfold aluW
  rw [if_neg h1, if_neg h2, if_neg h3, if_neg h4, if_neg h5, if_neg h6, if_neg h7, if_neg h8, if_neg h9, if_neg h10, if_neg h11, if_neg h12, if_neg h13]
/-- The same as the tests of a switch have it. -/
theorem noOp_beq {x : Int} (h : NoOp x) : (x == 0) = false ∧ (x == 16) = false ∧ (x == 32) = false ∧ (x == 48) = false ∧ (x == 144) = false ∧ (x == 64) = false ∧ (x == 80) = false ∧ (x == 160) = false ∧ (x == 96) = false ∧ (x == 112) = false ∧ (x == 192) = false ∧ (x == 128) = false ∧ (x == 176) = false := by
  obtain ⟨h1, h2, h3, h4, h5, h6, h7, h8, h9, h10, h11, h12, h13⟩ := h
  refine ⟨?_, ?_, ?_, ?_, ?_, ?_, ?_, ?_, ?_, ?_, ?_, ?_, ?_⟩ <;> (rw [beq_eq_false_iff_ne]; assumption)

theorem tmod64 (b : BitVec 64) : (N b).tmod 64 = ((b.toNat % 64 : Nat) : Int) := by
  unfold N; rw [Int.tmod_eq_emod_of_nonneg (by omega)]; omega
theorem tmod32 (b : BitVec 32) : (N b).tmod 32 = ((b.toNat % 32 : Nat) : Int) := by
  unfold N; rw [Int.tmod_eq_emod_of_nonneg (by omega)]; omega
theorem sign32 (a : BitVec 32) (k : Nat) : ((signS (a.setWidth 64) 32).sshiftRight k).setWidth 32 = a.sshiftRight k := by
  apply BitVec.eq_of_getLsbD_eq
  intro i hi
  rw [BitVec.getLsbD_setWidth, BitVec.getLsbD_sshiftRight, BitVec.getLsbD_sshiftRight]
  have hs : ∀ j, j < 64 → (signS (a.setWidth 64) 32).getLsbD j = if j < 32 then a.getLsbD j else a.getLsbD 31 := by
    intro j hj
    rw [sign_bit _ 32 j (by decide) hj, BitVec.getLsbD_setWidth, BitVec.getLsbD_setWidth]
    by_cases h : j < 32
    · have h' : (j : Int) < 32 := by omega
      simp only [h, h', if_true, hj, decide_true, Bool.true_and]
    · have h' : ¬ (j : Int) < 32 := by omega
      simp only [h, h', if_false]
      rfl
  rw [BitVec.msb_eq_getLsbD_last, BitVec.msb_eq_getLsbD_last, hs (64 - 1) (by decide)]
  have hi64 : ¬ 64 ≤ i := by omega
  have hi32 : ¬ 32 ≤ i := by omega
  simp only [hi, hi64, hi32, decide_true, decide_false, Bool.not_false, Bool.true_and]
  by_cases h1 : k + i < 64
  · rw [if_pos h1, hs _ h1]
  · rw [if_neg h1, if_neg (show ¬ k + i < 32 by omega)]
    rfl
theorem sext32 (v : BitVec 64) : v.signExtend 32 = v.setWidth 32 := by
  apply BitVec.eq_of_getLsbD_eq
  intro i hi
  rw [BitVec.getLsbD_signExtend, BitVec.getLsbD_setWidth]
  simp only [hi, decide_true, Bool.true_and, show i < 64 by omega, if_true]
theorem low_setWidth (v : BitVec 64) : (lowS v 32).setWidth 32 = v.setWidth 32 := by
  apply BitVec.eq_of_getLsbD_eq
  intro i hi
  rw [BitVec.getLsbD_setWidth, BitVec.getLsbD_setWidth, low_bit]
  have h' : (i : Int) < 32 := by omega
  simp only [h', decide_true, Bool.true_and]
theorem low64 (v : BitVec 64) : lowS v 64 = v := by unfold lowS; rw [if_neg (by decide), if_pos (by decide)]
theorem sign64 (v : BitVec 64) : signS v 64 = v := by unfold signS; rw [if_neg (by decide), if_pos (by decide)]
theorem low32 (v : BitVec 64) : lowS v 32 = (v.setWidth 32).setWidth 64 := by
  apply BitVec.eq_of_toNat_eq
  rw [low_toNat v 32 (by decide) (by decide)]
  simp
  omega
end Go.Proofs.YtbaiokfjoglmiaaDoor
