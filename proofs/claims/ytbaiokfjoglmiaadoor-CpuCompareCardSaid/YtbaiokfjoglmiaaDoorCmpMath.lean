/-
  Mathematics of comparing: the machine's flags behind a difference, and what programs' conditions say.
-/
import Derived.Test.YtbaiokfjoglmiaaDoorLaw12c
namespace Go.Proofs.YtbaiokfjoglmiaaDoor.Ex
open Go Go.RowKit
theorem msbT64 {A : BitVec 64} (h : A.msb = true) : A.toInt = (A.toNat : Int) - 18446744073709551616 ∧ 9223372036854775808 ≤ A.toNat := by
  have hA := A.isLt
  have h1 : 9223372036854775808 ≤ A.toNat := by rw [BitVec.msb_eq_decide] at h; exact of_decide_eq_true h
  refine ⟨?_, h1⟩
  rw [BitVec.toInt_eq_toNat_cond, if_neg (by omega)]
  omega
theorem msbF64 {A : BitVec 64} (h : A.msb = false) : A.toInt = (A.toNat : Int) ∧ A.toNat < 9223372036854775808 := by
  have h1 : ¬ 9223372036854775808 ≤ A.toNat := by rw [BitVec.msb_eq_decide] at h; exact of_decide_eq_false h
  refine ⟨?_, by omega⟩
  rw [BitVec.toInt_eq_toNat_cond, if_pos (by omega)]
theorem slt64 (A B : BitVec 64) : ((A - B).msb != ((A ^^^ B) &&& (A ^^^ (A - B))).msb) = decide (A.toInt < B.toInt) := by
  have hA := A.isLt
  have hB := B.isLt
  have hs := BitVec.toNat_sub A B
  rw [BitVec.msb_and, BitVec.msb_xor, BitVec.msb_xor]
  cases h1 : A.msb <;> cases h2 : B.msb <;> cases h3 : (A - B).msb
  all_goals
    have g1 := h1
    have g2 := h2
    first | replace g1 := msbT64 g1 | replace g1 := msbF64 g1
    first | replace g2 := msbT64 g2 | replace g2 := msbF64 g2
    first | replace h3 := (msbT64 h3).2 | replace h3 := (msbF64 h3).2
    rw [g1.1, g2.1]
    have g3 := g1.2
    have g4 := g2.2
    first | (rw [decide_eq_true (by omega)]; rfl) | (rw [decide_eq_false (by omega)]; rfl)
theorem msbT32 {A : BitVec 32} (h : A.msb = true) : A.toInt = (A.toNat : Int) - 4294967296 ∧ 2147483648 ≤ A.toNat := by
  have hA := A.isLt
  have h1 : 2147483648 ≤ A.toNat := by rw [BitVec.msb_eq_decide] at h; exact of_decide_eq_true h
  refine ⟨?_, h1⟩
  rw [BitVec.toInt_eq_toNat_cond, if_neg (by omega)]
  omega
theorem msbF32 {A : BitVec 32} (h : A.msb = false) : A.toInt = (A.toNat : Int) ∧ A.toNat < 2147483648 := by
  have h1 : ¬ 2147483648 ≤ A.toNat := by rw [BitVec.msb_eq_decide] at h; exact of_decide_eq_false h
  refine ⟨?_, by omega⟩
  rw [BitVec.toInt_eq_toNat_cond, if_pos (by omega)]
theorem slt32 (A B : BitVec 32) : ((A - B).msb != ((A ^^^ B) &&& (A ^^^ (A - B))).msb) = decide (A.toInt < B.toInt) := by
  have hA := A.isLt
  have hB := B.isLt
  have hs := BitVec.toNat_sub A B
  rw [BitVec.msb_and, BitVec.msb_xor, BitVec.msb_xor]
  cases h1 : A.msb <;> cases h2 : B.msb <;> cases h3 : (A - B).msb
  all_goals
    have g1 := h1
    have g2 := h2
    first | replace g1 := msbT32 g1 | replace g1 := msbF32 g1
    first | replace g2 := msbT32 g2 | replace g2 := msbF32 g2
    first | replace h3 := (msbT32 h3).2 | replace h3 := (msbF32 h3).2
    rw [g1.1, g2.1]
    have g3 := g1.2
    have g4 := g2.2
    first | (rw [decide_eq_true (by omega)]; rfl) | (rw [decide_eq_false (by omega)]; rfl)
theorem subI64 (a b : BitVec 64) : subI .u64 (N a) (N b) = N (a - b) := by unfold subI; rw [u64_wrap, ofInt_sub', ofInt_N, ofInt_N]
theorem subI32 (a b : BitVec 32) : subI .u32 (N a) (N b) = N (a - b) := by unfold subI; rw [u32_wrap, ofInt_sub', ofInt_N, ofInt_N]
theorem andI64 (a b : BitVec 64) : andI .u64 (N a) (N b) = N (a &&& b) := by
  unfold andI
  show IntKind.u64.wrap (((BitVec.ofInt 64 (N a) &&& BitVec.ofInt 64 (N b)).toNat : Nat) : Int) = _
  rw [ofInt_N, ofInt_N, u64_wrap, BitVec.ofInt_natCast, BitVec.ofNat_toNat, BitVec.setWidth_eq]
theorem andI32 (a b : BitVec 32) : andI .u32 (N a) (N b) = N (a &&& b) := by
  unfold andI
  show IntKind.u32.wrap (((BitVec.ofInt 32 (N a) &&& BitVec.ofInt 32 (N b)).toNat : Nat) : Int) = _
  rw [ofInt_N, ofInt_N, u32_wrap, BitVec.ofInt_natCast, BitVec.ofNat_toNat, BitVec.setWidth_eq]
theorem xorI64 (a b : BitVec 64) : xorI .u64 (N a) (N b) = N (a ^^^ b) := by
  unfold xorI
  show IntKind.u64.wrap (((BitVec.ofInt 64 (N a) ^^^ BitVec.ofInt 64 (N b)).toNat : Nat) : Int) = _
  rw [ofInt_N, ofInt_N, u64_wrap, BitVec.ofInt_natCast, BitVec.ofNat_toNat, BitVec.setWidth_eq]
theorem xorI32 (a b : BitVec 32) : xorI .u32 (N a) (N b) = N (a ^^^ b) := by
  unfold xorI
  show IntKind.u32.wrap (((BitVec.ofInt 32 (N a) ^^^ BitVec.ofInt 32 (N b)).toNat : Nat) : Int) = _
  rw [ofInt_N, ofInt_N, u32_wrap, BitVec.ofInt_natCast, BitVec.ofNat_toNat, BitVec.setWidth_eq]
theorem negB64 (v : BitVec 64) : negB 9223372036854775807 (N v) = v.msb := by
  unfold negB N
  rw [BitVec.msb_eq_decide]
  congr 1
  have := v.isLt
  simp only [eq_iff_iff]
  omega
theorem negB32 (v : BitVec 32) : negB 2147483647 (N v) = v.msb := by
  unfold negB N
  rw [BitVec.msb_eq_decide]
  congr 1
  have := v.isLt
  simp only [eq_iff_iff]
  omega
theorem wrap32 (a : BitVec 64) : IntKind.u32.wrap (N a) = N (a.setWidth 32) := by rw [u32_wrap, ofInt_Nw]
theorem eqz {w : Nat} (A B : BitVec w) : (N (A - B) == 0) = decide (N A = N B) := by
  rw [Bool.eq_iff_iff, beq_iff_eq, decide_eq_true_iff, N_eq_iff]
  constructor
  · intro h
    have h2 : A - B = 0#w := N_inj (by rw [h]; unfold N; simp)
    have h3 : A = A - B + B := (BitVec.sub_add_cancel A B).symm
    rw [h3, h2]
    simp
  · rintro rfl
    simp [N]
theorem N_low32 (a : BitVec 64) : N (lowS a 32) = N (a.setWidth 32) := by
  unfold N lowS
  simp only [show ¬ (32 : Int) ≤ 0 by decide, show ¬ (64 : Int) ≤ 32 by decide, if_false]
  have e : (a &&& (1#64 <<< (32 : Int).toNat - 1#64)).toNat = a.toNat % 2 ^ 32 := by
    rw [BitVec.toNat_and]
    exact Nat.and_two_pow_sub_one_eq_mod a.toNat 32
  rw [e, BitVec.toNat_setWidth]
theorem halfId (a : BitVec 32) : (a.setWidth 64).setWidth 32 = a := by
  apply BitVec.eq_of_toNat_eq; simp
theorem signZ32 (x : BitVec 64) : Z (signS (lowS x 32) 32) = if x.toNat % 4294967296 < 2147483648 then ((x.toNat % 4294967296 : Nat) : Int) else ((x.toNat % 4294967296 : Nat) : Int) - 4294967296 := by
  have hl : (lowS x 32).toNat = x.toNat % 4294967296 := low_toNat x 32 (by decide) (by decide)
  have hl2 : lowS (lowS x 32) 32 = lowS x 32 := by rw [low32, low32, halfId]
  unfold Z
  by_cases h : x.toNat % 4294967296 < 2147483648
  · rw [if_pos h, ← sign_plain (lowS x 32) 32 (by decide) (by decide) (by rw [hl2]; unfold N; rw [hl]; show ((x.toNat % 4294967296 : Nat) : Int) < 2147483648; omega), hl2, BitVec.toInt_eq_toNat_cond, hl]
    rw [if_pos (by omega)]
  · rw [if_neg h, ← sign_minus (lowS x 32) 32 (by decide) (by decide) (by rw [hl2]; unfold N; rw [hl]; show ¬ ((x.toNat % 4294967296 : Nat) : Int) < 2147483648; omega), hl2, BitVec.toInt_eq_toNat_cond]
    have e : (1#64 <<< (32 : Int).toNat).toNat = 4294967296 := by decide
    rw [BitVec.toNat_sub, hl, e]
    rw [if_neg (by omega)]
    omega
theorem Z_sign32 (a : BitVec 64) : Z (signS (lowS a 32) 32) = Z (a.setWidth 32) := by
  rw [signZ32]
  unfold Z
  rw [BitVec.toInt_eq_toNat_cond, BitVec.toNat_setWidth]
  have : a.toNat % 2 ^ 32 < 2 ^ 32 := Nat.mod_lt _ (by decide)
  split <;> split <;> omega
theorem cmpI_lt {x y : Int} : decide (cmpI x y < 0) = decide (x < y) := by unfold cmpI; congr 1; split <;> (try split) <;> simp_all <;> omega
theorem cmpI_le {x y : Int} : decide (cmpI x y ≤ 0) = decide (x ≤ y) := by unfold cmpI; congr 1; split <;> (try split) <;> simp_all <;> omega
theorem cmpI_ge {x y : Int} : decide (0 ≤ cmpI x y) = decide (y ≤ x) := by unfold cmpI; congr 1; split <;> (try split) <;> simp_all <;> omega
theorem cmpI_gt {x y : Int} : decide (0 < cmpI x y) = decide (y < x) := by unfold cmpI; congr 1; split <;> (try split) <;> simp_all <;> omega
theorem cmpI_eq {x y : Int} : decide (cmpI x y = 0) = decide (x = y) := by unfold cmpI; congr 1; split <;> (try split) <;> simp_all <;> omega
/-- All ten conditions behind a difference. -/
theorem ten {x y p q : Int} {z s c o t : Bool} (hz : z = decide (x = y)) (hc : c = decide (x < y)) (hs : (s != o) = decide (p < q)) (he : (x = y) ↔ (p = q)) :
    (takenS 2 z s c o != condO 160 (cmpI x y) (cmpI p q) t) = false ∧ (takenS 3 z s c o != condO 48 (cmpI x y) (cmpI p q) t) = false ∧ (takenS 4 z s c o != condO 16 (cmpI x y) (cmpI p q) t) = false ∧ (takenS 5 z s c o != condO 80 (cmpI x y) (cmpI p q) t) = false ∧
    (takenS 6 z s c o != condO 176 (cmpI x y) (cmpI p q) t) = false ∧ (takenS 7 z s c o != condO 32 (cmpI x y) (cmpI p q) t) = false ∧ (takenS 12 z s c o != condO 192 (cmpI x y) (cmpI p q) t) = false ∧ (takenS 13 z s c o != condO 112 (cmpI x y) (cmpI p q) t) = false ∧
    (takenS 14 z s c o != condO 208 (cmpI x y) (cmpI p q) t) = false ∧ (takenS 15 z s c o != condO 96 (cmpI x y) (cmpI p q) t) = false := by
  subst hz hc
  simp only [takenS, condO, hs, cmpI_lt, cmpI_le, cmpI_ge, cmpI_gt, cmpI_eq]
  refine ⟨?_, ?_, ?_, ?_, ?_, ?_, ?_, ?_, ?_, ?_⟩ <;> (rw [bne_eq_false_iff_eq, Bool.eq_iff_iff]; simp; try omega)
theorem cmpWide (va vb : BitVec 64) : (takenS 2 ((subI .u64 (N va) (N vb)) == 0) (negB 9223372036854775807 (subI .u64 (N va) (N vb))) (decide ((N va) < (N vb))) (negB 9223372036854775807 (andI .u64 (xorI .u64 (N va) (N vb)) (xorI .u64 (N va) (subI .u64 (N va) (N vb))))) != condS 160 true va vb) = false ∧ (takenS 3 ((subI .u64 (N va) (N vb)) == 0) (negB 9223372036854775807 (subI .u64 (N va) (N vb))) (decide ((N va) < (N vb))) (negB 9223372036854775807 (andI .u64 (xorI .u64 (N va) (N vb)) (xorI .u64 (N va) (subI .u64 (N va) (N vb))))) != condS 48 true va vb) = false ∧ (takenS 4 ((subI .u64 (N va) (N vb)) == 0) (negB 9223372036854775807 (subI .u64 (N va) (N vb))) (decide ((N va) < (N vb))) (negB 9223372036854775807 (andI .u64 (xorI .u64 (N va) (N vb)) (xorI .u64 (N va) (subI .u64 (N va) (N vb))))) != condS 16 true va vb) = false ∧ (takenS 5 ((subI .u64 (N va) (N vb)) == 0) (negB 9223372036854775807 (subI .u64 (N va) (N vb))) (decide ((N va) < (N vb))) (negB 9223372036854775807 (andI .u64 (xorI .u64 (N va) (N vb)) (xorI .u64 (N va) (subI .u64 (N va) (N vb))))) != condS 80 true va vb) = false ∧ (takenS 6 ((subI .u64 (N va) (N vb)) == 0) (negB 9223372036854775807 (subI .u64 (N va) (N vb))) (decide ((N va) < (N vb))) (negB 9223372036854775807 (andI .u64 (xorI .u64 (N va) (N vb)) (xorI .u64 (N va) (subI .u64 (N va) (N vb))))) != condS 176 true va vb) = false ∧ (takenS 7 ((subI .u64 (N va) (N vb)) == 0) (negB 9223372036854775807 (subI .u64 (N va) (N vb))) (decide ((N va) < (N vb))) (negB 9223372036854775807 (andI .u64 (xorI .u64 (N va) (N vb)) (xorI .u64 (N va) (subI .u64 (N va) (N vb))))) != condS 32 true va vb) = false ∧ (takenS 12 ((subI .u64 (N va) (N vb)) == 0) (negB 9223372036854775807 (subI .u64 (N va) (N vb))) (decide ((N va) < (N vb))) (negB 9223372036854775807 (andI .u64 (xorI .u64 (N va) (N vb)) (xorI .u64 (N va) (subI .u64 (N va) (N vb))))) != condS 192 true va vb) = false ∧ (takenS 13 ((subI .u64 (N va) (N vb)) == 0) (negB 9223372036854775807 (subI .u64 (N va) (N vb))) (decide ((N va) < (N vb))) (negB 9223372036854775807 (andI .u64 (xorI .u64 (N va) (N vb)) (xorI .u64 (N va) (subI .u64 (N va) (N vb))))) != condS 112 true va vb) = false ∧ (takenS 14 ((subI .u64 (N va) (N vb)) == 0) (negB 9223372036854775807 (subI .u64 (N va) (N vb))) (decide ((N va) < (N vb))) (negB 9223372036854775807 (andI .u64 (xorI .u64 (N va) (N vb)) (xorI .u64 (N va) (subI .u64 (N va) (N vb))))) != condS 208 true va vb) = false ∧ (takenS 15 ((subI .u64 (N va) (N vb)) == 0) (negB 9223372036854775807 (subI .u64 (N va) (N vb))) (decide ((N va) < (N vb))) (negB 9223372036854775807 (andI .u64 (xorI .u64 (N va) (N vb)) (xorI .u64 (N va) (subI .u64 (N va) (N vb))))) != condS 96 true va vb) = false := by
  refine ten (x := N (lowS va (bitsI true))) (y := N (lowS vb (bitsI true))) (p := Z (signS (lowS va (bitsI true)) (bitsI true))) (q := Z (signS (lowS vb (bitsI true)) (bitsI true))) (t := tO true va vb) ?_ ?_ ?_ ?_
  · show _ = decide (N (lowS va 64) = N (lowS vb 64))
    rw [low64, low64, subI64, eqz]
  · show _ = decide (N (lowS va 64) < N (lowS vb 64))
    rw [low64, low64]
  · show _ = decide (Z (signS (lowS va 64) 64) < Z (signS (lowS vb 64) 64))
    rw [low64, low64, sign64, sign64, subI64, xorI64, xorI64, andI64, negB64, negB64]
    exact slt64 _ _
  · show N (lowS va 64) = N (lowS vb 64) ↔ Z (signS (lowS va 64) 64) = Z (signS (lowS vb 64) 64)
    rw [low64, low64, sign64, sign64, N_eq_iff]
    exact ⟨fun h => by rw [h], fun h => BitVec.eq_of_toInt_eq h⟩
theorem setW (va vb : BitVec 64) : (takenS 5 ((andI .u64 (N va) (N vb)) == 0) (negB 9223372036854775807 (andI .u64 (N va) (N vb))) false false != condS 64 true va vb) = false := by
  rw [bne_eq_false_iff_eq, andI64]
  show (!(N (va &&& vb) == 0)) = !(lowS va 64 &&& lowS vb 64 == 0#64)
  congr 1
  rw [low64, low64]
  have h0 : (0 : Int) = N 0#64 := rfl
  rw [h0, N_beq]
theorem cmpHalf (va vb : BitVec 64) : (takenS 2 ((subI .u32 (IntKind.u32.wrap (N va)) (IntKind.u32.wrap (N vb))) == 0) (negB 2147483647 (subI .u32 (IntKind.u32.wrap (N va)) (IntKind.u32.wrap (N vb)))) (decide ((IntKind.u32.wrap (N va)) < (IntKind.u32.wrap (N vb)))) (negB 2147483647 (andI .u32 (xorI .u32 (IntKind.u32.wrap (N va)) (IntKind.u32.wrap (N vb))) (xorI .u32 (IntKind.u32.wrap (N va)) (subI .u32 (IntKind.u32.wrap (N va)) (IntKind.u32.wrap (N vb)))))) != condS 160 false va vb) = false ∧ (takenS 3 ((subI .u32 (IntKind.u32.wrap (N va)) (IntKind.u32.wrap (N vb))) == 0) (negB 2147483647 (subI .u32 (IntKind.u32.wrap (N va)) (IntKind.u32.wrap (N vb)))) (decide ((IntKind.u32.wrap (N va)) < (IntKind.u32.wrap (N vb)))) (negB 2147483647 (andI .u32 (xorI .u32 (IntKind.u32.wrap (N va)) (IntKind.u32.wrap (N vb))) (xorI .u32 (IntKind.u32.wrap (N va)) (subI .u32 (IntKind.u32.wrap (N va)) (IntKind.u32.wrap (N vb)))))) != condS 48 false va vb) = false ∧ (takenS 4 ((subI .u32 (IntKind.u32.wrap (N va)) (IntKind.u32.wrap (N vb))) == 0) (negB 2147483647 (subI .u32 (IntKind.u32.wrap (N va)) (IntKind.u32.wrap (N vb)))) (decide ((IntKind.u32.wrap (N va)) < (IntKind.u32.wrap (N vb)))) (negB 2147483647 (andI .u32 (xorI .u32 (IntKind.u32.wrap (N va)) (IntKind.u32.wrap (N vb))) (xorI .u32 (IntKind.u32.wrap (N va)) (subI .u32 (IntKind.u32.wrap (N va)) (IntKind.u32.wrap (N vb)))))) != condS 16 false va vb) = false ∧ (takenS 5 ((subI .u32 (IntKind.u32.wrap (N va)) (IntKind.u32.wrap (N vb))) == 0) (negB 2147483647 (subI .u32 (IntKind.u32.wrap (N va)) (IntKind.u32.wrap (N vb)))) (decide ((IntKind.u32.wrap (N va)) < (IntKind.u32.wrap (N vb)))) (negB 2147483647 (andI .u32 (xorI .u32 (IntKind.u32.wrap (N va)) (IntKind.u32.wrap (N vb))) (xorI .u32 (IntKind.u32.wrap (N va)) (subI .u32 (IntKind.u32.wrap (N va)) (IntKind.u32.wrap (N vb)))))) != condS 80 false va vb) = false ∧ (takenS 6 ((subI .u32 (IntKind.u32.wrap (N va)) (IntKind.u32.wrap (N vb))) == 0) (negB 2147483647 (subI .u32 (IntKind.u32.wrap (N va)) (IntKind.u32.wrap (N vb)))) (decide ((IntKind.u32.wrap (N va)) < (IntKind.u32.wrap (N vb)))) (negB 2147483647 (andI .u32 (xorI .u32 (IntKind.u32.wrap (N va)) (IntKind.u32.wrap (N vb))) (xorI .u32 (IntKind.u32.wrap (N va)) (subI .u32 (IntKind.u32.wrap (N va)) (IntKind.u32.wrap (N vb)))))) != condS 176 false va vb) = false ∧ (takenS 7 ((subI .u32 (IntKind.u32.wrap (N va)) (IntKind.u32.wrap (N vb))) == 0) (negB 2147483647 (subI .u32 (IntKind.u32.wrap (N va)) (IntKind.u32.wrap (N vb)))) (decide ((IntKind.u32.wrap (N va)) < (IntKind.u32.wrap (N vb)))) (negB 2147483647 (andI .u32 (xorI .u32 (IntKind.u32.wrap (N va)) (IntKind.u32.wrap (N vb))) (xorI .u32 (IntKind.u32.wrap (N va)) (subI .u32 (IntKind.u32.wrap (N va)) (IntKind.u32.wrap (N vb)))))) != condS 32 false va vb) = false ∧ (takenS 12 ((subI .u32 (IntKind.u32.wrap (N va)) (IntKind.u32.wrap (N vb))) == 0) (negB 2147483647 (subI .u32 (IntKind.u32.wrap (N va)) (IntKind.u32.wrap (N vb)))) (decide ((IntKind.u32.wrap (N va)) < (IntKind.u32.wrap (N vb)))) (negB 2147483647 (andI .u32 (xorI .u32 (IntKind.u32.wrap (N va)) (IntKind.u32.wrap (N vb))) (xorI .u32 (IntKind.u32.wrap (N va)) (subI .u32 (IntKind.u32.wrap (N va)) (IntKind.u32.wrap (N vb)))))) != condS 192 false va vb) = false ∧ (takenS 13 ((subI .u32 (IntKind.u32.wrap (N va)) (IntKind.u32.wrap (N vb))) == 0) (negB 2147483647 (subI .u32 (IntKind.u32.wrap (N va)) (IntKind.u32.wrap (N vb)))) (decide ((IntKind.u32.wrap (N va)) < (IntKind.u32.wrap (N vb)))) (negB 2147483647 (andI .u32 (xorI .u32 (IntKind.u32.wrap (N va)) (IntKind.u32.wrap (N vb))) (xorI .u32 (IntKind.u32.wrap (N va)) (subI .u32 (IntKind.u32.wrap (N va)) (IntKind.u32.wrap (N vb)))))) != condS 112 false va vb) = false ∧ (takenS 14 ((subI .u32 (IntKind.u32.wrap (N va)) (IntKind.u32.wrap (N vb))) == 0) (negB 2147483647 (subI .u32 (IntKind.u32.wrap (N va)) (IntKind.u32.wrap (N vb)))) (decide ((IntKind.u32.wrap (N va)) < (IntKind.u32.wrap (N vb)))) (negB 2147483647 (andI .u32 (xorI .u32 (IntKind.u32.wrap (N va)) (IntKind.u32.wrap (N vb))) (xorI .u32 (IntKind.u32.wrap (N va)) (subI .u32 (IntKind.u32.wrap (N va)) (IntKind.u32.wrap (N vb)))))) != condS 208 false va vb) = false ∧ (takenS 15 ((subI .u32 (IntKind.u32.wrap (N va)) (IntKind.u32.wrap (N vb))) == 0) (negB 2147483647 (subI .u32 (IntKind.u32.wrap (N va)) (IntKind.u32.wrap (N vb)))) (decide ((IntKind.u32.wrap (N va)) < (IntKind.u32.wrap (N vb)))) (negB 2147483647 (andI .u32 (xorI .u32 (IntKind.u32.wrap (N va)) (IntKind.u32.wrap (N vb))) (xorI .u32 (IntKind.u32.wrap (N va)) (subI .u32 (IntKind.u32.wrap (N va)) (IntKind.u32.wrap (N vb)))))) != condS 96 false va vb) = false := by
  rw [wrap32, wrap32]
  refine ten (x := N (lowS va (bitsI false))) (y := N (lowS vb (bitsI false))) (p := Z (signS (lowS va (bitsI false)) (bitsI false))) (q := Z (signS (lowS vb (bitsI false)) (bitsI false))) (t := tO false va vb) ?_ ?_ ?_ ?_
  · show _ = decide (N (lowS va 32) = N (lowS vb 32))
    rw [N_low32, N_low32, subI32, eqz]
  · show _ = decide (N (lowS va 32) < N (lowS vb 32))
    rw [N_low32, N_low32]
  · show _ = decide (Z (signS (lowS va 32) 32) < Z (signS (lowS vb 32) 32))
    rw [Z_sign32, Z_sign32, subI32, xorI32, xorI32, andI32, negB32, negB32]
    exact slt32 _ _
  · show N (lowS va 32) = N (lowS vb 32) ↔ Z (signS (lowS va 32) 32) = Z (signS (lowS vb 32) 32)
    rw [N_low32, N_low32, Z_sign32, Z_sign32, N_eq_iff]
    exact ⟨fun h => by rw [h], fun h => BitVec.eq_of_toInt_eq h⟩
theorem setH (va vb : BitVec 64) : (takenS 5 ((andI .u32 (IntKind.u32.wrap (N va)) (IntKind.u32.wrap (N vb))) == 0) (negB 2147483647 (andI .u32 (IntKind.u32.wrap (N va)) (IntKind.u32.wrap (N vb)))) false false != condS 64 false va vb) = false := by
  rw [wrap32, wrap32]
  rw [bne_eq_false_iff_eq, andI32]
  show (!(N ((va.setWidth 32) &&& (vb.setWidth 32)) == 0)) = !(lowS va 32 &&& lowS vb 32 == 0#64)
  congr 1
  rw [low32, low32]
  have h0 : (0 : Int) = N 0#32 := rfl
  rw [h0, N_beq, Bool.eq_iff_iff, beq_iff_eq, beq_iff_eq]
  generalize va.setWidth 32 = A
  generalize vb.setWidth 32 = B
  rw [← BitVec.setWidth_and]
  constructor
  · intro h; rw [h]; rfl
  · intro h
    have := congrArg (BitVec.setWidth 32) h
    rwa [halfId] at this
end Go.Proofs.YtbaiokfjoglmiaaDoor.Ex
