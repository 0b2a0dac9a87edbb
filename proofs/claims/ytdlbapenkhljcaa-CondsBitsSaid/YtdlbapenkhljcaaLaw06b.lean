/-
  The walk of the law CondsSigned.
-/
import Derived.Test.YtdlbapenkhljcaaLaw06
import Derived.Deep.RegionHeld3
namespace Go.Proofs.Ytdlbapenkhljcaa
open Go.RowKit
attribute [local go_sem] u64_wrap u8_wrap BitVec.ofInt_add BitVec.ofInt_mul ofInt_sub' ofInt_N ofInt_Nw u64_and
/-- 'Grown', not taken apart. -/
def Gr (a b : World) : Prop := Grown a b
theorem keepS {B k : Nat} {x y : Value} {W1 wo wn : World} (hg : Gr wo wn) (h : wo.cell? ⟨B, k, none⟩ = some x ∧ wo.cell? ⟨B + 1, k, none⟩ = some y ∧ B + 1 < wo.heap.size ∧ Gr W1 wo) :
    wn.cell? ⟨B, k, none⟩ = some x ∧ wn.cell? ⟨B + 1, k, none⟩ = some y ∧ B + 1 < wn.heap.size ∧ Gr W1 wn :=
  ⟨grown_cellAt hg (by have := h.2.2.1; show B < _; omega) h.1, grown_cellAt hg h.2.2.1 h.2.1, Nat.lt_of_lt_of_le h.2.2.1 hg.2.2, Grown.trans' h.2.2.2 hg⟩
theorem keepEnd {B k : Nat} {x y : Value} {W1 wo : World} (h : wo.cell? ⟨B, k, none⟩ = some x ∧ wo.cell? ⟨B + 1, k, none⟩ = some y ∧ B + 1 < wo.heap.size ∧ Gr W1 wo) : Grown W1 wo := h.2.2.2
theorem cmpI_same {x y x' y' : Int} (h1 : x < y ↔ x' < y') (h2 : y < x ↔ y' < x') : cmpI x y = cmpI x' y' := by
  unfold cmpI
  simp only [h1, h2]
theorem cmpI_turn {x y x' y' : Int} (h1 : x < y ↔ y' < x') (h2 : y < x ↔ x' < y') (h3 : ¬ x = y) : cmpI x y = - cmpI x' y' ∧ ¬ cmpI x y = 0 := by
  constructor
  · unfold cmpI
    by_cases a1 : x < y
    · have b1 : ¬ x' < y' := by have := h1.1 a1; omega
      rw [if_pos a1, if_neg b1, if_pos (h1.1 a1)]
    · by_cases a2 : y < x
      · rw [if_neg a1, if_pos a2, if_pos (h2.1 a2)]; rfl
      · omega
  · rw [cmpI_eq]; exact h3
theorem high_and (a : BitVec 64) (k : Nat) (hk : k < 64) : (a &&& BitVec.twoPow 64 k).toNat = a.toNat / 2 ^ k % 2 * 2 ^ k := by
  rw [BitVec.toNat_and, BitVec.toNat_twoPow_of_lt hk, nat_bit]
theorem high_eq (a b : BitVec 64) (k : Nat) (hk : k < 64) : (N (a &&& BitVec.twoPow 64 k) == N (b &&& BitVec.twoPow 64 k)) = decide (a.toNat / 2 ^ k % 2 = b.toNat / 2 ^ k % 2) := by
  have hp : 0 < 2 ^ k := Nat.two_pow_pos k
  unfold N
  rw [high_and a k hk, high_and b k hk, Bool.eq_iff_iff, beq_iff_eq, decide_eq_true_iff]
  constructor
  · intro h
    have h' : a.toNat / 2 ^ k % 2 * 2 ^ k = b.toNat / 2 ^ k % 2 * 2 ^ k := by exact_mod_cast h
    exact Nat.eq_of_mul_eq_mul_right hp h'
  · intro h; rw [h]
theorem condSg (x y : Int) (hx : (x = 32 ∧ y = 96) ∨ (x = 48 ∧ y = 112) ∨ (x = 160 ∧ y = 192) ∨ (x = 176 ∧ y = 208)) (wide : Bool) (a b : BitVec 64) (al : Bool) (h : al = true → uO wide a b = gO wide a b) (h2 : al = false → uO wide a b = - gO wide a b ∧ ¬ uO wide a b = 0) :
    (condS x wide a b == condS y wide a b) = al := by
  rw [Bool.eq_iff_iff, beq_iff_eq]
  cases al
  · obtain ⟨h3, h4⟩ := h2 rfl
    rcases hx with ⟨rfl, rfl⟩ | ⟨rfl, rfl⟩ | ⟨rfl, rfl⟩ | ⟨rfl, rfl⟩
    · show decide (0 < uO wide a b) = decide (0 < gO wide a b) ↔ false = true
      simp; omega
    · show decide (0 ≤ uO wide a b) = decide (0 ≤ gO wide a b) ↔ false = true
      simp; omega
    · show decide (uO wide a b < 0) = decide (gO wide a b < 0) ↔ false = true
      simp; omega
    · show decide (uO wide a b ≤ 0) = decide (gO wide a b ≤ 0) ↔ false = true
      simp; omega
  · have h3 := h rfl
    rcases hx with ⟨rfl, rfl⟩ | ⟨rfl, rfl⟩ | ⟨rfl, rfl⟩ | ⟨rfl, rfl⟩
    · show decide (0 < uO wide a b) = decide (0 < gO wide a b) ↔ true = true
      rw [h3]; simp
    · show decide (0 ≤ uO wide a b) = decide (0 ≤ gO wide a b) ↔ true = true
      rw [h3]; simp
    · show decide (uO wide a b < 0) = decide (gO wide a b < 0) ↔ true = true
      rw [h3]; simp
    · show decide (uO wide a b ≤ 0) = decide (gO wide a b ≤ 0) ↔ true = true
      rw [h3]; simp
theorem signed_alike_t (a b : BitVec 64) : (condS 32 true a b == condS 96 true a b) = (N (a &&& 9223372036854775808#64) == N (b &&& 9223372036854775808#64)) ∧ (condS 48 true a b == condS 112 true a b) = (N (a &&& 9223372036854775808#64) == N (b &&& 9223372036854775808#64)) ∧ (condS 160 true a b == condS 192 true a b) = (N (a &&& 9223372036854775808#64) == N (b &&& 9223372036854775808#64)) ∧ (condS 176 true a b == condS 208 true a b) = (N (a &&& 9223372036854775808#64) == N (b &&& 9223372036854775808#64)) := by
  have e : 9223372036854775808#64 = BitVec.twoPow 64 63 := by decide
  rw [e]
  have hA := a.isLt
  have hB := b.isLt
  have uA : N (lowS a 64) = (a.toNat : Int) := by rw [low64]; rfl
  have uB : N (lowS b 64) = (b.toNat : Int) := by rw [low64]; rfl
  have gA : Z (signS (lowS a 64) 64) = if 2 * a.toNat < 2 ^ 64 then (a.toNat : Int) else (a.toNat : Int) - (2 ^ 64 : Nat) := by rw [low64, sign64]; unfold Z; rw [BitVec.toInt_eq_toNat_cond]
  have gB : Z (signS (lowS b 64) 64) = if 2 * b.toNat < 2 ^ 64 then (b.toNat : Int) else (b.toNat : Int) - (2 ^ 64 : Nat) := by rw [low64, sign64]; unfold Z; rw [BitVec.toInt_eq_toNat_cond]
  have hu : uO true a b = cmpI (a.toNat : Int) (b.toNat : Int) := by unfold uO; show cmpI (N (lowS a 64)) (N (lowS b 64)) = _; rw [uA, uB]
  have hg : gO true a b = cmpI (if 2 * a.toNat < 2 ^ 64 then (a.toNat : Int) else (a.toNat : Int) - (2 ^ 64 : Nat)) (if 2 * b.toNat < 2 ^ 64 then (b.toNat : Int) else (b.toNat : Int) - (2 ^ 64 : Nat)) := by unfold gO; show cmpI (Z (signS (lowS a 64) 64)) (Z (signS (lowS b 64) 64)) = _; rw [gA, gB]
  have hal := high_eq a b 63 (by decide)
  generalize a.toNat = x at *
  generalize b.toNat = y at *
  have h1 : (N (a &&& BitVec.twoPow 64 63) == N (b &&& BitVec.twoPow 64 63)) = true → uO true a b = gO true a b := by
    intro h
    rw [hal, decide_eq_true_iff] at h
    rw [hu, hg]
    apply cmpI_same <;> (split <;> split <;> omega)
  have h2 : (N (a &&& BitVec.twoPow 64 63) == N (b &&& BitVec.twoPow 64 63)) = false → uO true a b = -gO true a b ∧ ¬ uO true a b = 0 := by
    intro h
    rw [hal, decide_eq_false_iff_not] at h
    rw [hu, hg]
    apply cmpI_turn
    · split <;> split <;> omega
    · split <;> split <;> omega
    · omega
  exact ⟨condSg 32 96 (by omega) true a b _ h1 h2, condSg 48 112 (by omega) true a b _ h1 h2, condSg 160 192 (by omega) true a b _ h1 h2, condSg 176 208 (by omega) true a b _ h1 h2⟩
theorem signed_alike_f (a b : BitVec 64) : (condS 32 false a b == condS 96 false a b) = (N (a &&& 2147483648#64) == N (b &&& 2147483648#64)) ∧ (condS 48 false a b == condS 112 false a b) = (N (a &&& 2147483648#64) == N (b &&& 2147483648#64)) ∧ (condS 160 false a b == condS 192 false a b) = (N (a &&& 2147483648#64) == N (b &&& 2147483648#64)) ∧ (condS 176 false a b == condS 208 false a b) = (N (a &&& 2147483648#64) == N (b &&& 2147483648#64)) := by
  have e : 2147483648#64 = BitVec.twoPow 64 31 := by decide
  rw [e]
  have uA : N (lowS a 32) = ((a.toNat % 4294967296 : Nat) : Int) := by unfold N; rw [low_toNat a 32 (by decide) (by decide)]; rfl
  have uB : N (lowS b 32) = ((b.toNat % 4294967296 : Nat) : Int) := by unfold N; rw [low_toNat b 32 (by decide) (by decide)]; rfl
  have hu : uO false a b = cmpI ((a.toNat % 4294967296 : Nat) : Int) ((b.toNat % 4294967296 : Nat) : Int) := by unfold uO; show cmpI (N (lowS a 32)) (N (lowS b 32)) = _; rw [uA, uB]
  have hg : gO false a b = cmpI (if a.toNat % 4294967296 < 2147483648 then ((a.toNat % 4294967296 : Nat) : Int) else ((a.toNat % 4294967296 : Nat) : Int) - 4294967296) (if b.toNat % 4294967296 < 2147483648 then ((b.toNat % 4294967296 : Nat) : Int) else ((b.toNat % 4294967296 : Nat) : Int) - 4294967296) := by unfold gO; show cmpI (Z (signS (lowS a 32) 32)) (Z (signS (lowS b 32) 32)) = _; rw [signS32_Z, signS32_Z]
  have hal := high_eq a b 31 (by decide)
  generalize a.toNat = x at *
  generalize b.toNat = y at *
  have h1 : (N (a &&& BitVec.twoPow 64 31) == N (b &&& BitVec.twoPow 64 31)) = true → uO false a b = gO false a b := by
    intro h
    rw [hal, decide_eq_true_iff] at h
    rw [hu, hg]
    apply cmpI_same <;> (split <;> split <;> omega)
  have h2 : (N (a &&& BitVec.twoPow 64 31) == N (b &&& BitVec.twoPow 64 31)) = false → uO false a b = -gO false a b ∧ ¬ uO false a b = 0 := by
    intro h
    rw [hal, decide_eq_false_iff_not] at h
    rw [hu, hg]
    apply cmpI_turn
    · split <;> split <;> omega
    · split <;> split <;> omega
    · omega
  exact ⟨condSg 32 96 (by omega) false a b _ h1 h2, condSg 48 112 (by omega) false a b _ h1 h2, condSg 160 192 (by omega) false a b _ h1 h2, condSg 176 208 (by omega) false a b _ h1 h2⟩
end Go.Proofs.Ytdlbapenkhljcaa
