/-
  The contract of conds.Holds.
-/
import Derived.Test.YtbaiokfjoglmiaaDoorConds
namespace Go.Proofs.YtbaiokfjoglmiaaDoor
open Go.RowKit

attribute [local go_sem] u64_wrap u8_wrap wrap64_N ofInt_N u64_and

def cmpI (x y : Int) : Int := if x < y then -1 else if y < x then 1 else 0

set_option maxHeartbeats 400000 in
theorem cmp_u64 (x y : Int) (w : World) : Calls Tryd.prog 73 #[.int .u64 x, .int .u64 y] w fun e w' => e = .returned (.int .i64 (cmpI x y)) ∧ w = w' := by
  have n1 : (x != x) = false := by simp
  have n2 : (y != y) = false := by simp
  unfold cmpI
  by_cases h : x < y
  · rw [if_pos h]
    go_enter Tryd.func73, Tryd.ntmps73
    go_wp2
    go_ret
    exact ⟨rfl, rfl⟩
  · rw [if_neg h]
    by_cases h2 : y < x
    · rw [if_pos h2]
      go_enter Tryd.func73, Tryd.ntmps73
      go_wp2
      go_ret
      exact ⟨rfl, rfl⟩
    · rw [if_neg h2]
      go_enter Tryd.func73, Tryd.ntmps73
      go_wp2
      go_ret
      exact ⟨rfl, rfl⟩

set_option maxHeartbeats 400000 in
theorem cmp_i64 (x y : Int) (w : World) : Calls Tryd.prog 74 #[.int .i64 x, .int .i64 y] w fun e w' => e = .returned (.int .i64 (cmpI x y)) ∧ w = w' := by
  have n1 : (x != x) = false := by simp
  have n2 : (y != y) = false := by simp
  unfold cmpI
  by_cases h : x < y
  · rw [if_pos h]
    go_enter Tryd.func74, Tryd.ntmps74
    go_wp2
    go_ret
    exact ⟨rfl, rfl⟩
  · rw [if_neg h]
    by_cases h2 : y < x
    · rw [if_pos h2]
      go_enter Tryd.func74, Tryd.ntmps74
      go_wp2
      go_ret
      exact ⟨rfl, rfl⟩
    · rw [if_neg h2]
      go_enter Tryd.func74, Tryd.ntmps74
      go_wp2
      go_ret
      exact ⟨rfl, rfl⟩

/-- The numbers that a condition asks of: the lowest bits. -/
def bitsI (wide : Bool) : Int := if wide then 64 else 32
/-- Whether a condition holds; x: which one; u: how two numbers lie to each other; g: how they do with their sign; t: whether a bit is set in both. -/
def condO (x u g : Int) (t : Bool) : Bool :=
  if x = 0 then true else if x = 16 then decide (u = 0) else if x = 80 then !decide (u = 0) else if x = 32 then decide (0 < u) else if x = 48 then decide (0 ≤ u)
  else if x = 160 then decide (u < 0) else if x = 176 then decide (u ≤ 0) else if x = 96 then decide (0 < g) else if x = 112 then decide (0 ≤ g)
  else if x = 192 then decide (g < 0) else if x = 208 then decide (g ≤ 0) else if x = 64 then t else false
def uO (wide : Bool) (a b : BitVec 64) : Int := cmpI (N (lowS a (bitsI wide))) (N (lowS b (bitsI wide)))
def gO (wide : Bool) (a b : BitVec 64) : Int := cmpI (Z (signS (lowS a (bitsI wide)) (bitsI wide))) (Z (signS (lowS b (bitsI wide)) (bitsI wide)))
def tO (wide : Bool) (a b : BitVec 64) : Bool := !(lowS a (bitsI wide) &&& lowS b (bitsI wide) == 0#64)
def condS (x : Int) (wide : Bool) (a b : BitVec 64) : Bool := condO x (uO wide a b) (gO wide a b) (tO wide a b)

theorem cmpI_three (x y : Int) : cmpI x y = -1 ∨ cmpI x y = 0 ∨ cmpI x y = 1 := by
  unfold cmpI
  split
  · left; rfl
  · split
    · right; right; rfl
    · right; left; rfl
/-- No condition at all. -/
def NoCond (x : Int) : Prop := ¬ x = 0 ∧ ¬ x = 16 ∧ ¬ x = 80 ∧ ¬ x = 32 ∧ ¬ x = 48 ∧ ¬ x = 160 ∧ ¬ x = 176 ∧ ¬ x = 96 ∧ ¬ x = 112 ∧ ¬ x = 192 ∧ ¬ x = 208 ∧ ¬ x = 64
theorem cond_cases (x : Int) : x = 0 ∨ x = 16 ∨ x = 80 ∨ x = 32 ∨ x = 48 ∨ x = 160 ∨ x = 176 ∨ x = 96 ∨ x = 112 ∨ x = 192 ∨ x = 208 ∨ x = 64 ∨ NoCond x := by
  unfold NoCond; omega
theorem condO_none {x : Int} (h : NoCond x) (u g : Int) (t : Bool) : condO x u g t = false := by
  obtain ⟨h1, h2, h3, h4, h5, h6, h7, h8, h9, h10, h11, h12⟩ := h
  unfold condO
  rw [if_neg h1, if_neg h2, if_neg h3, if_neg h4, if_neg h5, if_neg h6, if_neg h7, if_neg h8, if_neg h9, if_neg h10, if_neg h11, if_neg h12]
theorem find_none {x : Int} (h : NoCond x) : Instr.findNow (.int .u8) (.int .u8 x) (tabE 12).toList 0 = some none := by
  obtain ⟨h1, h2, h3, h4, h5, h6, h7, h8, h9, h10, h11, h12⟩ := h
  replace h1 := beq_eq_false_iff_ne.2 h1
  replace h2 := beq_eq_false_iff_ne.2 h2
  replace h3 := beq_eq_false_iff_ne.2 h3
  replace h4 := beq_eq_false_iff_ne.2 h4
  replace h5 := beq_eq_false_iff_ne.2 h5
  replace h6 := beq_eq_false_iff_ne.2 h6
  replace h7 := beq_eq_false_iff_ne.2 h7
  replace h8 := beq_eq_false_iff_ne.2 h8
  replace h9 := beq_eq_false_iff_ne.2 h9
  replace h10 := beq_eq_false_iff_ne.2 h10
  replace h11 := beq_eq_false_iff_ne.2 h11
  replace h12 := beq_eq_false_iff_ne.2 h12
  simp [tabE, Instr.findNow, Instr.sameNow, h1, h2, h3, h4, h5, h6, h7, h8, h9, h10, h11, h12]
theorem N_and_beq (a b : BitVec 64) : (N (a &&& b) == 0) = (a &&& b == 0#64) := by
  have : (0 : Int) = N 0#64 := rfl
  rw [this, N_beq]
end Go.Proofs.YtbaiokfjoglmiaaDoor
