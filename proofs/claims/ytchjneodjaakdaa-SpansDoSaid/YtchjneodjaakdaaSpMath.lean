/-
  The mathematics of numbers between ends: what is drawn, sums, differences, products, quotients, shifts, bits.
-/
import Derived.Test.YtchjneodjaakdaaBv
import Derived.Lib.BitFns
import Derived.Lib.ItoaNum
namespace Go.Proofs.Ytchjneodjaakdaa.Spn
open Go.Proofs.Ytchjneodjaakdaa
abbrev W64 := BitVec 64
structure Sp where
  lo : W64
  hi : W64
  slo : W64
  shi : W64
/-- A number without its sign and with it. -/
theorem two_forms (v : W64) : 0 ≤ N v ∧ N v < 18446744073709551616 ∧ ((N v < 9223372036854775808 ∧ Z v = N v) ∨ (9223372036854775808 ≤ N v ∧ Z v = N v - 18446744073709551616)) := by
  unfold N Z
  have := v.isLt
  rw [BitVec.toInt_eq_toNat_cond]
  refine ⟨by omega, by omega, ?_⟩
  split <;> omega
def umax (a b : W64) : W64 := if N a < N b then b else a
def umin (a b : W64) : W64 := if N b < N a then b else a
def smax (a b : W64) : W64 := if Z a < Z b then b else a
def smin (a b : W64) : W64 := if Z b < Z a then b else a
theorem N_umax (a b : W64) : N (umax a b) = max (N a) (N b) := by unfold umax; split <;> omega
theorem N_umin (a b : W64) : N (umin a b) = min (N a) (N b) := by unfold umin; split <;> omega
theorem Z_smax (a b : W64) : Z (smax a b) = max (Z a) (Z b) := by unfold smax; split <;> omega
theorem Z_smin (a b : W64) : Z (smin a b) = min (Z a) (Z b) := by unfold smin; split <;> omega
def plusS (s : Sp) : W64 × W64 := if 0 ≤ Z s.shi then (umax s.lo (smax s.slo 0#64), umin s.hi s.shi) else (1#64, 0#64)
def minusS (s : Sp) : W64 × W64 := if Z s.slo < 0 then (umax s.lo s.slo, umin s.hi (smin s.shi (-1#64))) else (1#64, 0#64)
def emptyS (p : W64 × W64) : Bool := decide (N p.2 < N p.1)
def okS (s : Sp) : Bool := !(emptyS (plusS s) && emptyS (minusS s))
def tightS (s : Sp) : Sp :=
  if emptyS (plusS s) && emptyS (minusS s) then ⟨0#64, 0#64, 0#64, 0#64⟩
  else if emptyS (minusS s) then ⟨(plusS s).1, (plusS s).2, (plusS s).1, (plusS s).2⟩
  else if emptyS (plusS s) then ⟨(minusS s).1, (minusS s).2, (minusS s).1, (minusS s).2⟩
  else ⟨(plusS s).1, (minusS s).2, (minusS s).1, (plusS s).2⟩
def anyS : Sp := ⟨0#64, -1#64, 9223372036854775808#64, 9223372036854775807#64⟩
def settledS (s : Sp) : Sp := if okS s then tightS s else anyS
def commonS (a b : Sp) : Sp := ⟨umax a.lo b.lo, umin a.hi b.hi, smax a.slo b.slo, smin a.shi b.shi⟩
def SHas (s : Sp) (v : W64) : Prop := N s.lo ≤ N v ∧ N v ≤ N s.hi ∧ Z s.slo ≤ Z v ∧ Z v ≤ Z s.shi
def SValid (s : Sp) : Prop := N s.lo ≤ N s.hi ∧ Z s.slo ≤ Z s.shi
def SIn (a b : Sp) : Prop := N a.lo ≤ N b.lo ∧ N b.hi ≤ N a.hi ∧ Z a.slo ≤ Z b.slo ∧ Z b.shi ≤ Z a.shi
theorem N1 : N (1#64) = 1 := by decide
theorem N0 : N (0#64) = 0 := by decide
theorem Z0 : Z (0#64) = 0 := by decide
theorem Zm1 : Z (-1#64) = -1 := by decide
theorem Nm1 : N (-1#64) = 18446744073709551615 := by decide
theorem smax0 (a : W64) : (0 ≤ Z a → smax a 0#64 = a) ∧ (Z a < 0 → smax a 0#64 = 0#64) := by
  unfold smax; rw [Z0]; constructor <;> intro h
  · rw [if_neg (by omega)]
  · rw [if_pos h]
theorem N_smax0 (a : W64) : N (smax a 0#64) = max (Z a) 0 := by
  have := two_forms a
  unfold smax
  rw [Z0]
  split
  · rw [N0]; omega
  · omega
theorem N_sminm1 (a : W64) : N (smin a (-1#64)) = min (Z a) (-1) + 18446744073709551616 := by
  have := two_forms a
  unfold smin
  rw [Zm1]
  split
  · rw [Nm1]; omega
  · omega
theorem plus_N (s : Sp) : (0 ≤ Z s.shi ∧ N (plusS s).1 = max (N s.lo) (max (Z s.slo) 0) ∧ N (plusS s).2 = min (N s.hi) (Z s.shi)) ∨ (Z s.shi < 0 ∧ N (plusS s).1 = 1 ∧ N (plusS s).2 = 0) := by
  have h := two_forms s.shi
  unfold plusS
  split
  · left
    refine ⟨by assumption, ?_, ?_⟩
    · simp only [N_umax, N_smax0]
    · simp only [N_umin]; omega
  · right
    exact ⟨by omega, N1, N0⟩
theorem minus_N (s : Sp) : (Z s.slo < 0 ∧ N (minusS s).1 = max (N s.lo) (Z s.slo + 18446744073709551616) ∧ N (minusS s).2 = min (N s.hi) (min (Z s.shi) (-1) + 18446744073709551616)) ∨ (0 ≤ Z s.slo ∧ N (minusS s).1 = 1 ∧ N (minusS s).2 = 0) := by
  have h := two_forms s.slo
  unfold minusS
  split
  · left
    refine ⟨by assumption, ?_, ?_⟩
    · simp only [N_umax]; omega
    · simp only [N_umin, N_sminm1]
  · right
    exact ⟨by omega, N1, N0⟩
theorem empty_iff (p : W64 × W64) : (emptyS p = true ∧ N p.2 < N p.1) ∨ (emptyS p = false ∧ N p.1 ≤ N p.2) := by
  unfold emptyS
  by_cases h : N p.2 < N p.1
  · left; exact ⟨decide_eq_true h, h⟩
  · right; exact ⟨decide_eq_false h, by omega⟩
theorem tight_cases (s : Sp) :
    (okS s = false ∧ emptyS (plusS s) = true ∧ emptyS (minusS s) = true) ∨
    (okS s = true ∧ emptyS (plusS s) = false ∧ emptyS (minusS s) = true ∧ tightS s = ⟨(plusS s).1, (plusS s).2, (plusS s).1, (plusS s).2⟩) ∨
    (okS s = true ∧ emptyS (plusS s) = true ∧ emptyS (minusS s) = false ∧ tightS s = ⟨(minusS s).1, (minusS s).2, (minusS s).1, (minusS s).2⟩) ∨
    (okS s = true ∧ emptyS (plusS s) = false ∧ emptyS (minusS s) = false ∧ tightS s = ⟨(plusS s).1, (minusS s).2, (minusS s).1, (plusS s).2⟩) := by
  unfold okS tightS
  cases emptyS (plusS s) <;> cases emptyS (minusS s) <;> simp
theorem plus_has {s : Sp} {v : W64} (h : SHas s v) (hz : 0 ≤ Z v) : N (plusS s).1 ≤ N v ∧ N v ≤ N (plusS s).2 := by
  have hv := two_forms v
  obtain ⟨h1, h2, h3, h4⟩ := h
  rcases plus_N s with ⟨a, b, c⟩ | ⟨a, b, c⟩
  · rw [b, c]
    constructor
    · exact Int.max_le.2 ⟨h1, Int.max_le.2 ⟨by omega, by omega⟩⟩
    · exact Int.le_min.2 ⟨h2, by omega⟩
  · omega
theorem minus_has {s : Sp} {v : W64} (h : SHas s v) (hz : Z v < 0) : N (minusS s).1 ≤ N v ∧ N v ≤ N (minusS s).2 := by
  have hv := two_forms v
  obtain ⟨h1, h2, h3, h4⟩ := h
  rcases minus_N s with ⟨a, b, c⟩ | ⟨a, b, c⟩
  · rw [b, c]
    constructor
    · exact Int.max_le.2 ⟨h1, by omega⟩
    · have : Z v ≤ min (Z s.shi) (-1) := Int.le_min.2 ⟨h4, by omega⟩
      exact Int.le_min.2 ⟨h2, by omega⟩
  · omega
theorem plus_in {s : Sp} (h : N (plusS s).1 ≤ N (plusS s).2) : N s.lo ≤ N (plusS s).1 ∧ Z s.slo ≤ N (plusS s).1 ∧ 0 ≤ N (plusS s).1 ∧ N (plusS s).2 ≤ N s.hi ∧ N (plusS s).2 ≤ Z s.shi ∧ N (plusS s).2 < 9223372036854775808 ∧ 0 ≤ Z s.shi := by
  have f4 := two_forms s.shi
  rcases plus_N s with ⟨a, b, c⟩ | ⟨a, b, c⟩
  · have m1 := Int.le_max_left (N s.lo) (max (Z s.slo) 0)
    have m2 := Int.le_max_right (N s.lo) (max (Z s.slo) 0)
    have m3 := Int.le_max_left (Z s.slo) 0
    have m4 := Int.le_max_right (Z s.slo) 0
    have m5 := Int.min_le_left (N s.hi) (Z s.shi)
    have m6 := Int.min_le_right (N s.hi) (Z s.shi)
    rw [← b] at m1 m2
    rw [← c] at m5 m6
    clear b c h
    generalize max (Z s.slo) 0 = q at *
    omega
  · omega
theorem minus_in {s : Sp} (h : N (minusS s).1 ≤ N (minusS s).2) : N s.lo ≤ N (minusS s).1 ∧ Z s.slo + 18446744073709551616 ≤ N (minusS s).1 ∧ 9223372036854775808 ≤ N (minusS s).1 ∧ N (minusS s).2 ≤ N s.hi ∧ N (minusS s).2 ≤ Z s.shi + 18446744073709551616 ∧ Z s.slo < 0 := by
  have f3 := two_forms s.slo
  rcases minus_N s with ⟨a, b, c⟩ | ⟨a, b, c⟩
  · have m1 := Int.le_max_left (N s.lo) (Z s.slo + 18446744073709551616)
    have m2 := Int.le_max_right (N s.lo) (Z s.slo + 18446744073709551616)
    have m5 := Int.min_le_left (N s.hi) (min (Z s.shi) (-1) + 18446744073709551616)
    have m6 := Int.min_le_right (N s.hi) (min (Z s.shi) (-1) + 18446744073709551616)
    have m7 := Int.min_le_left (Z s.shi) (-1)
    rw [← b] at m1 m2
    rw [← c] at m5 m6
    clear b c h
    generalize min (Z s.shi) (-1) = q at *
    omega
  · omega
/-- What was there is there still. -/
theorem tight_has {s : Sp} {v : W64} (h : SHas s v) : okS s = true ∧ SHas (tightS s) v := by
  have hv := two_forms v
  have hp := plus_has h
  have hm := minus_has h
  have ep := empty_iff (plusS s)
  have em := empty_iff (minusS s)
  have fp1 := two_forms (plusS s).1
  have fp2 := two_forms (plusS s).2
  have fm1 := two_forms (minusS s).1
  have fm2 := two_forms (minusS s).2
  have ip := @plus_in s
  have im := @minus_in s
  clear h
  unfold SHas at *
  rcases tight_cases s with ⟨ho, h1, h2⟩ | ⟨ho, h1, h2, e⟩ | ⟨ho, h1, h2, e⟩ | ⟨ho, h1, h2, e⟩
  · exfalso
    simp only [h1, h2, Bool.true_eq_false, false_and, or_false, true_and] at ep em
    omega
  all_goals
    simp only [h1, h2, Bool.true_eq_false, Bool.false_eq_true, false_and, or_false, false_or, true_and] at ep em
    rw [e]
    refine ⟨ho, ?_⟩
    dsimp only
    generalize N (plusS s).1 = p1 at *
    generalize N (plusS s).2 = p2 at *
    generalize N (minusS s).1 = m1 at *
    generalize N (minusS s).2 = m2 at *
    by_cases hz : 0 ≤ Z v
    · have hp' := hp hz
      clear hp hm
      first
        | (have ip' := ip ep; have im' := im em; clear ip im; omega)
        | (have ip' := ip ep; clear ip im; omega)
        | (have im' := im em; clear ip im; omega)
    · have hm' := hm (by omega)
      clear hp hm
      first
        | (have ip' := ip ep; have im' := im em; clear ip im; omega)
        | (have ip' := ip ep; clear ip im; omega)
        | (have im' := im em; clear ip im; omega)
theorem tight_in {s : Sp} (h : okS s = true) : SValid (tightS s) ∧ SIn s (tightS s) := by
  have ep := empty_iff (plusS s)
  have em := empty_iff (minusS s)
  have fp1 := two_forms (plusS s).1
  have fp2 := two_forms (plusS s).2
  have fm1 := two_forms (minusS s).1
  have fm2 := two_forms (minusS s).2
  have ip := @plus_in s
  have im := @minus_in s
  unfold SValid SIn
  rcases tight_cases s with ⟨ho, h1, h2⟩ | ⟨ho, h1, h2, e⟩ | ⟨ho, h1, h2, e⟩ | ⟨ho, h1, h2, e⟩
  · rw [h] at ho; cases ho
  all_goals
    simp only [h1, h2, Bool.true_eq_false, Bool.false_eq_true, false_and, or_false, false_or, true_and] at ep em
    rw [e]
    dsimp only
    first
      | (have ip' := ip ep; have im' := im em; clear ip im; omega)
      | (have ip' := ip ep; clear ip im; omega)
      | (have im' := im em; clear ip im; omega)
theorem any_has (v : W64) : SHas anyS v := by
  have := two_forms v
  have a1 : N anyS.lo = 0 := by decide
  have a2 : N anyS.hi = 18446744073709551615 := by decide
  have a3 : Z anyS.slo = -9223372036854775808 := by decide
  have a4 : Z anyS.shi = 9223372036854775807 := by decide
  unfold SHas
  omega
theorem any_valid : SValid anyS := by unfold SValid; decide
theorem settled_has {s : Sp} {v : W64} (h : SHas s v) : SHas (settledS s) v := by
  unfold settledS
  rw [(tight_has h).1, if_pos rfl]
  exact (tight_has h).2
theorem settled_valid (s : Sp) : SValid (settledS s) := by
  unfold settledS
  split
  · exact (tight_in (by assumption)).1
  · exact any_valid
theorem common_has {a b : Sp} {v : W64} (h1 : SHas a v) (h2 : SHas b v) : SHas (commonS a b) v := by
  unfold SHas commonS at *
  simp only [N_umax, N_umin, Z_smax, Z_smin]
  obtain ⟨a1, a2, a3, a4⟩ := h1
  obtain ⟨b1, b2, b3, b4⟩ := h2
  exact ⟨Int.max_le.2 ⟨a1, b1⟩, Int.le_min.2 ⟨a2, b2⟩, Int.max_le.2 ⟨a3, b3⟩, Int.le_min.2 ⟨a4, b4⟩⟩
theorem common_in (a b : Sp) : SIn a (commonS a b) ∧ SIn b (commonS a b) := by
  unfold SIn commonS
  simp only [N_umax, N_umin, Z_smax, Z_smin]
  exact ⟨⟨Int.le_max_left _ _, Int.min_le_left _ _, Int.le_max_left _ _, Int.min_le_left _ _⟩, ⟨Int.le_max_right _ _, Int.min_le_right _ _, Int.le_max_right _ _, Int.min_le_right _ _⟩⟩
/-! Sums and differences. -/
theorem N_add (a b : W64) : (N (a + b) = N a + N b ∧ N a + N b < 18446744073709551616) ∨ (N (a + b) = N a + N b - 18446744073709551616 ∧ 18446744073709551616 ≤ N a + N b) := by
  unfold N
  have := a.isLt
  have := b.isLt
  rw [BitVec.toNat_add]
  omega
theorem N_sub (a b : W64) : (N (a - b) = N a - N b ∧ N b ≤ N a) ∨ (N (a - b) = N a - N b + 18446744073709551616 ∧ N a < N b) := by
  unfold N
  have := a.isLt
  have := b.isLt
  rw [BitVec.toNat_sub]
  omega
def minW : W64 := 9223372036854775808#64
def maxW : W64 := 9223372036854775807#64
theorem Z_minW : Z minW = -9223372036854775808 := by decide
theorem Z_maxW : Z maxW = 9223372036854775807 := by decide
def endsS (lo hi : W64) (k : Bool) : Sp := if k then ⟨lo, hi, minW, maxW⟩ else anyS
def sendsS (lo hi : W64) (k : Bool) : Sp := if k then ⟨0#64, -1#64, lo, hi⟩ else anyS
theorem ends_has {lo hi v : W64} {k : Bool} (h : k = true → N lo ≤ N v ∧ N v ≤ N hi) : SHas (endsS lo hi k) v := by
  unfold endsS
  cases k
  · exact any_has v
  · have := two_forms v
    have := h rfl
    unfold SHas
    rw [if_pos rfl]
    simp only [Z_minW, Z_maxW]
    omega
theorem sends_has {lo hi v : W64} {k : Bool} (h : k = true → Z lo ≤ Z v ∧ Z v ≤ Z hi) : SHas (sendsS lo hi k) v := by
  unfold sendsS
  cases k
  · exact any_has v
  · have := two_forms v
    have := h rfl
    unfold SHas
    rw [if_pos rfl]
    simp only [N0, Nm1]
    omega
def cyA (a b : W64) : W64 := if 18446744073709551616 ≤ N a + N b then 1#64 else 0#64
def cyB (a b : W64) : W64 := if N a < N b then 1#64 else 0#64
def wayA (a b : W64) : Int := if 0 < Z a ∧ 0 < Z b ∧ Z (a + b) < 0 then 1 else if Z a < 0 ∧ Z b < 0 ∧ 0 ≤ Z (a + b) then -1 else 0
def wayB (a b : W64) : Int := if 0 ≤ Z a ∧ Z b < 0 ∧ Z (a - b) < 0 then 1 else if Z a < 0 ∧ 0 < Z b ∧ 0 ≤ Z (a - b) then -1 else 0
theorem cyA_iff (a b : W64) : (N (a + b) = N a + N b ∧ cyA a b = 0#64) ∨ (N (a + b) = N a + N b - 18446744073709551616 ∧ cyA a b = 1#64) := by
  unfold cyA
  rcases N_add a b with h | h
  · left; rw [if_neg (by omega)]; exact ⟨h.1, rfl⟩
  · right; rw [if_pos (by omega)]; exact ⟨h.1, rfl⟩
theorem cyB_iff (a b : W64) : (N (a - b) = N a - N b ∧ cyB a b = 0#64) ∨ (N (a - b) = N a - N b + 18446744073709551616 ∧ cyB a b = 1#64) := by
  unfold cyB
  rcases N_sub a b with h | h
  · left; rw [if_neg (by omega)]; exact ⟨h.1, rfl⟩
  · right; rw [if_pos (by omega)]; exact ⟨h.1, rfl⟩
theorem wayA_iff (a b : W64) : (Z (a + b) = Z a + Z b ∧ wayA a b = 0) ∨ (Z (a + b) = Z a + Z b - 18446744073709551616 ∧ wayA a b = 1) ∨ (Z (a + b) = Z a + Z b + 18446744073709551616 ∧ wayA a b = -1) := by
  have h1 := two_forms a
  have h2 := two_forms b
  have h3 := two_forms (a + b)
  have h4 := N_add a b
  unfold wayA
  by_cases c1 : 0 < Z a ∧ 0 < Z b ∧ Z (a + b) < 0
  · right; left; rw [if_pos c1]; exact ⟨by omega, rfl⟩
  · by_cases c2 : Z a < 0 ∧ Z b < 0 ∧ 0 ≤ Z (a + b)
    · right; right; rw [if_neg c1, if_pos c2]; exact ⟨by omega, rfl⟩
    · left; rw [if_neg c1, if_neg c2]; exact ⟨by omega, rfl⟩
theorem wayB_iff (a b : W64) : (Z (a - b) = Z a - Z b ∧ wayB a b = 0) ∨ (Z (a - b) = Z a - Z b - 18446744073709551616 ∧ wayB a b = 1) ∨ (Z (a - b) = Z a - Z b + 18446744073709551616 ∧ wayB a b = -1) := by
  have h1 := two_forms a
  have h2 := two_forms b
  have h3 := two_forms (a - b)
  have h4 := N_sub a b
  unfold wayB
  by_cases c1 : 0 ≤ Z a ∧ Z b < 0 ∧ Z (a - b) < 0
  · right; left; rw [if_pos c1]; exact ⟨by omega, rfl⟩
  · by_cases c2 : Z a < 0 ∧ 0 < Z b ∧ 0 ≤ Z (a - b)
    · right; right; rw [if_neg c1, if_pos c2]; exact ⟨by omega, rfl⟩
    · left; rw [if_neg c1, if_neg c2]; exact ⟨by omega, rfl⟩
def addR (a b : Sp) : Sp := settledS (commonS (endsS (a.lo + b.lo) (a.hi + b.hi) (cyA a.lo b.lo == cyA a.hi b.hi)) (sendsS (a.slo + b.slo) (a.shi + b.shi) (wayA a.slo b.slo == wayA a.shi b.shi)))
def subR (a b : Sp) : Sp := settledS (commonS (endsS (a.lo - b.hi) (a.hi - b.lo) (cyB a.lo b.hi == cyB a.hi b.lo)) (sendsS (a.slo - b.shi) (a.shi - b.slo) (wayB a.slo b.shi == wayB a.shi b.slo)))
theorem b01 : (0#64 == (1#64 : W64)) = false := by decide
theorem b10 : (1#64 == (0#64 : W64)) = false := by decide
theorem addR_has {a b : Sp} {x y : W64} (ha : SHas a x) (hb : SHas b y) : SHas (addR a b) (x + y) := by
  have fx := two_forms x
  have fy := two_forms y
  have fz := two_forms (x + y)
  have hn := N_add x y
  have hz := wayA_iff x y
  obtain ⟨a1, a2, a3, a4⟩ := ha
  obtain ⟨b1, b2, b3, b4⟩ := hb
  refine settled_has (common_has (ends_has fun hk => ?_) (sends_has fun hk => ?_))
  · have f1 := two_forms a.lo
    have f2 := two_forms b.lo
    have f3 := two_forms a.hi
    have f4 := two_forms b.hi
    clear a3 a4 b3 b4 hz
    rcases cyA_iff a.lo b.lo with ⟨c1, c2⟩ | ⟨c1, c2⟩ <;> rcases cyA_iff a.hi b.hi with ⟨c3, c4⟩ | ⟨c3, c4⟩ <;> rw [c2, c4] at hk
    · have := N_lt (a.hi + b.hi); have := N_nonneg (a.lo + b.lo); omega
    · rw [b01] at hk; cases hk
    · rw [b10] at hk; cases hk
    · have := N_lt (a.hi + b.hi); have := N_nonneg (a.lo + b.lo); omega
  · have f1 := two_forms (a.slo + b.slo)
    have f2 := two_forms (a.shi + b.shi)
    have k := eq_of_beq hk
    have w1 := wayA_iff a.slo b.slo
    have w2 := wayA_iff a.shi b.shi
    clear a1 a2 b1 b2 hn hk
    omega
theorem subR_has {a b : Sp} {x y : W64} (ha : SHas a x) (hb : SHas b y) : SHas (subR a b) (x - y) := by
  have fx := two_forms x
  have fy := two_forms y
  have fz := two_forms (x - y)
  have hn := N_sub x y
  have hz := wayB_iff x y
  obtain ⟨a1, a2, a3, a4⟩ := ha
  obtain ⟨b1, b2, b3, b4⟩ := hb
  refine settled_has (common_has (ends_has fun hk => ?_) (sends_has fun hk => ?_))
  · have f1 := two_forms a.lo
    have f2 := two_forms b.lo
    have f3 := two_forms a.hi
    have f4 := two_forms b.hi
    clear a3 a4 b3 b4 hz
    rcases cyB_iff a.lo b.hi with ⟨c1, c2⟩ | ⟨c1, c2⟩ <;> rcases cyB_iff a.hi b.lo with ⟨c3, c4⟩ | ⟨c3, c4⟩ <;> rw [c2, c4] at hk
    · have := N_lt (a.hi - b.lo); have := N_nonneg (a.lo - b.hi); omega
    · rw [b01] at hk; cases hk
    · rw [b10] at hk; cases hk
    · have := N_lt (a.hi - b.lo); have := N_nonneg (a.lo - b.hi); omega
  · have f1 := two_forms (a.slo - b.shi)
    have f2 := two_forms (a.shi - b.slo)
    have k := eq_of_beq hk
    have w1 := wayB_iff a.slo b.shi
    have w2 := wayB_iff a.shi b.slo
    clear a1 a2 b1 b2 hn hk
    omega
/-! The bits by which a carry is told. -/
theorem msb_63 (v : W64) : v >>> 63 = if 9223372036854775808 ≤ v.toNat then 1#64 else 0#64 := by
  apply BitVec.eq_of_toNat_eq
  rw [BitVec.toNat_ushiftRight, Nat.shiftRight_eq_div_pow]
  have := v.isLt
  split
  · simp; omega
  · simp; omega
theorem msb_dec (v : W64) : v.msb = decide (9223372036854775808 ≤ v.toNat) := by
  rw [BitVec.msb_eq_decide]
theorem msb_if (v : W64) : v >>> 63 = if v.msb then 1#64 else 0#64 := by
  rw [msb_63, msb_dec]; by_cases h : 9223372036854775808 ≤ v.toNat <;> simp [h]
theorem carry_bool (x y s : Nat) (h1 : x < 18446744073709551616) (h2 : y < 18446744073709551616) (h3 : s = (x + y) % 18446744073709551616) :
    ((decide (9223372036854775808 ≤ x) && decide (9223372036854775808 ≤ y)) || ((decide (9223372036854775808 ≤ x) || decide (9223372036854775808 ≤ y)) && !decide (9223372036854775808 ≤ s))) = decide (18446744073709551616 ≤ (x : Int) + (y : Int)) := by
  rw [Bool.eq_iff_iff]
  simp only [Bool.or_eq_true, Bool.and_eq_true, Bool.not_eq_true', decide_eq_true_eq, decide_eq_false_iff_not]
  omega
theorem borrow_bool (x y s : Nat) (h1 : x < 18446744073709551616) (h2 : y < 18446744073709551616) (h3 : s = (18446744073709551616 - y + x) % 18446744073709551616) :
    ((!decide (9223372036854775808 ≤ x) && decide (9223372036854775808 ≤ y)) || (!(decide (9223372036854775808 ≤ x) ^^ decide (9223372036854775808 ≤ y)) && decide (9223372036854775808 ≤ s))) = decide ((x : Int) < (y : Int)) := by
  rw [Bool.eq_iff_iff]
  by_cases c1 : 9223372036854775808 ≤ x <;> by_cases c2 : 9223372036854775808 ≤ y <;> simp [c1, c2] <;> omega
theorem msb_not64 (v : W64) : (~~~v).msb = !v.msb := by rw [BitVec.msb_not]; simp
theorem add64_carry (a b : W64) : ((a &&& b) ||| ((a ||| b) &&& ~~~(a + b))) >>> 63 = cyA a b := by
  rw [msb_if]
  simp only [BitVec.msb_or, BitVec.msb_and]
  rw [msb_not64]
  rw [msb_dec a, msb_dec b, msb_dec (a + b), carry_bool _ _ _ a.isLt b.isLt (BitVec.toNat_add _ _)]
  unfold cyA N
  by_cases h : 18446744073709551616 ≤ (a.toNat : Int) + (b.toNat : Int) <;> simp [h]
theorem sub64_borrow (a b : W64) : ((~~~a &&& b) ||| (~~~(a ^^^ b) &&& (a - b))) >>> 63 = cyB a b := by
  rw [msb_if]
  simp only [BitVec.msb_or, BitVec.msb_and]
  rw [msb_not64, msb_not64, BitVec.msb_xor]
  rw [msb_dec a, msb_dec b, msb_dec (a - b), borrow_bool _ _ _ a.isLt b.isLt (BitVec.toNat_sub _ _)]
  unfold cyB N
  by_cases h : (a.toNat : Int) < (b.toNat : Int) <;> simp [h]
/-! Quotients, what is left, shifts, the lowest 32 bits. -/
def plainS (lo hi : W64) : Sp := ⟨lo, hi, minW, maxW⟩
def signedS (lo hi : W64) : Sp := ⟨0#64, -1#64, lo, hi⟩
theorem plain_has {lo hi v : W64} (h : N lo ≤ N v ∧ N v ≤ N hi) : SHas (plainS lo hi) v := ends_has (k := true) fun _ => h
theorem signed_has {lo hi v : W64} (h : Z lo ≤ Z v ∧ Z v ≤ Z hi) : SHas (signedS lo hi) v := sends_has (k := true) fun _ => h
def constS (v : W64) : Sp := ⟨v, v, v, v⟩
theorem const_has (v : W64) : SHas (constS v) v := ⟨Int.le_refl _, Int.le_refl _, Int.le_refl _, Int.le_refl _⟩
theorem const_valid (v : W64) : SValid (constS v) := ⟨Int.le_refl _, Int.le_refl _⟩
def divR (a b : Sp) : Sp := if b.hi = 0#64 then constS 0#64 else settledS (plainS (if b.lo = 0#64 then 0#64 else a.lo / b.hi) (a.hi / umax b.lo 1#64))
theorem N_div (a b : W64) : N (a / b) = N a / N b := by unfold N; rw [BitVec.toNat_udiv, Int.natCast_ediv]
theorem N_mod (a b : W64) : N (a % b) = N a % N b := by unfold N; rw [BitVec.toNat_umod, Int.natCast_emod]
theorem N_zero_iff (a : W64) : a = 0#64 ↔ N a = 0 := by
  constructor
  · rintro rfl; exact N0
  · intro h; apply BitVec.eq_of_toNat_eq; unfold N at h; simp; omega
theorem divR_has {a b : Sp} {x y : W64} (ha : SHas a x) (hb : SHas b y) : SHas (divR a b) (x / y) := by
  obtain ⟨a1, a2, -, -⟩ := ha
  obtain ⟨b1, b2, -, -⟩ := hb
  have nx := N_nonneg x
  have ny := N_nonneg y
  have na := N_nonneg a.lo
  have nb := N_nonneg b.lo
  unfold divR
  split
  · rename_i h
    have h0 : N y = 0 := by rw [h, N0] at b2; omega
    rw [(N_zero_iff y).2 h0]
    have : x / 0#64 = 0#64 := by apply BitVec.eq_of_toNat_eq; simp
    rw [this]
    exact const_has _
  · rename_i h
    have hh : ¬ N b.hi = 0 := fun e => h ((N_zero_iff _).2 e)
    have hp : 0 < N b.hi := by have := N_nonneg b.hi; omega
    refine settled_has (plain_has ?_)
    rw [N_div x y]
    constructor
    · split
      · rw [N0]; exact Int.ediv_nonneg nx ny
      · rename_i h2
        have h3 : ¬ N b.lo = 0 := fun e => h2 ((N_zero_iff _).2 e)
        have hy : 0 < N y := by omega
        rw [N_div]
        exact Int.le_trans (Int.ediv_le_ediv hp a1) (by
          apply Int.le_ediv_of_mul_le hy
          exact Int.le_trans (Int.mul_le_mul_of_nonneg_left b2 (Int.ediv_nonneg nx (by omega))) (Int.ediv_mul_le _ (by omega)))
    · rw [N_div, N_umax, N1]
      by_cases hy : N y = 0
      · rw [hy, Int.ediv_zero]; exact Int.ediv_nonneg (by omega) (by omega)
      · have hm : max (N b.lo) 1 ≤ N y := Int.max_le.2 ⟨b1, by omega⟩
        have hm1 : 1 ≤ max (N b.lo) 1 := Int.le_max_right _ _
        generalize max (N b.lo) 1 = m at *
        have hq : 0 ≤ N x / N y := Int.ediv_nonneg nx ny
        apply Int.le_ediv_of_mul_le (by omega)
        have : N x / N y * m ≤ N x / N y * N y := Int.mul_le_mul_of_nonneg_left hm hq
        have h2 := Int.ediv_mul_le (N x) hy
        omega
def modR (a b : Sp) : Sp := if N a.hi < N b.lo ∨ b.hi = 0#64 then a else settledS (plainS 0#64 (if 0 < N b.lo then umin a.hi (b.hi - 1#64) else a.hi))
theorem modR_has {a b : Sp} {x y : W64} (ha : SHas a x) (hb : SHas b y) : SHas (modR a b) (if y = 0#64 then x else x % y) := by
  have ha' := ha
  obtain ⟨a1, a2, -, -⟩ := ha
  obtain ⟨b1, b2, -, -⟩ := hb
  have nx := N_nonneg x
  have ny := N_nonneg y
  have na := N_nonneg a.lo
  have nb := N_nonneg b.lo
  unfold modR
  split
  · rename_i h
    have e : (if y = 0#64 then x else x % y) = x := by
      split
      · rfl
      · rename_i hy
        rcases h with h | h
        · apply BitVec.eq_of_toNat_eq
          rw [BitVec.toNat_umod]
          unfold N at *
          exact Nat.mod_eq_of_lt (by omega)
        · exact absurd ((N_zero_iff y).2 (by rw [h, N0] at b2; omega)) hy
    rw [e]
    exact ha'
  · rename_i h
    refine settled_has (plain_has ?_)
    rw [N0]
    split
    · rename_i hy
      refine ⟨nx, ?_⟩
      rw [if_neg (by rw [hy, N0] at b1; omega)]
      exact a2
    · rename_i hy
      have hy' : ¬ N y = 0 := fun e => hy ((N_zero_iff y).2 e)
      rw [N_mod]
      have h1 := Int.emod_nonneg (N x) hy'
      have h2 := Int.emod_lt_of_pos (N x) (show 0 < N y by omega)
      have h3 : N x % N y ≤ N x := by
        by_cases c : N x < N y
        · rw [Int.emod_eq_of_lt nx c]; omega
        · omega
      refine ⟨h1, ?_⟩
      split
      · rw [N_umin]
        have hs := N_sub b.hi 1#64
        rw [N1] at hs
        exact Int.le_min.2 ⟨by omega, by omega⟩
      · omega
/-! Shifts. -/
theorem N_shl (a : W64) (k : Nat) : N (a <<< k) = N a * 2 ^ k % 18446744073709551616 := by
  unfold N
  rw [BitVec.toNat_shiftLeft, Nat.shiftLeft_eq]
  simp
theorem N_shr' (a : W64) (k : Nat) : N (a >>> k) = N a / 2 ^ k := by
  unfold N; rw [BitVec.toNat_ushiftRight, Nat.shiftRight_eq_div_pow]; simp
theorem Z_shr' (a : W64) (k : Nat) : Z (a.sshiftRight k) = Z a / 2 ^ k := by
  unfold Z; rw [BitVec.toInt_sshiftRight, Int.shiftRight_eq_div_pow]; simp
theorem pow_pos' (k : Nat) : (0 : Int) < 2 ^ k := by exact_mod_cast Nat.two_pow_pos k
def lshR (a : Sp) (k : Nat) : Sp := settledS (commonS (endsS (a.lo <<< k) (a.hi <<< k) ((a.hi <<< k) >>> k == a.hi)) (sendsS (a.slo <<< k) (a.shi <<< k) ((a.slo <<< k).sshiftRight k == a.slo && (a.shi <<< k).sshiftRight k == a.shi)))
def rshR (a : Sp) (k : Nat) : Sp := if k = 0 then a else settledS (plainS (a.lo >>> k) (a.hi >>> k))
def arshR (a : Sp) (k : Nat) : Sp := if k = 0 then a else settledS (signedS (a.slo.sshiftRight k) (a.shi.sshiftRight k))
theorem rshR_has {a : Sp} {x : W64} (k : Nat) (ha : SHas a x) : SHas (rshR a k) (x >>> k) := by
  unfold rshR
  split
  · rename_i h; subst h; simpa using ha
  · refine settled_has (plain_has ?_)
    rw [N_shr', N_shr', N_shr']
    exact ⟨Int.ediv_le_ediv (pow_pos' k) ha.1, Int.ediv_le_ediv (pow_pos' k) ha.2.1⟩
theorem arshR_has {a : Sp} {x : W64} (k : Nat) (ha : SHas a x) : SHas (arshR a k) (x.sshiftRight k) := by
  unfold arshR
  split
  · rename_i h; subst h; simpa using ha
  · refine settled_has (signed_has ?_)
    rw [Z_shr', Z_shr', Z_shr']
    exact ⟨Int.ediv_le_ediv (pow_pos' k) ha.2.2.1, Int.ediv_le_ediv (pow_pos' k) ha.2.2.2⟩
/-- What is moved up and down again and is the same has lost nothing. -/
theorem N_shl_back {a : W64} {k : Nat} (h : (a <<< k) >>> k = a) : N (a <<< k) = N a * 2 ^ k := by
  have e : N (a <<< k) / 2 ^ k = N a := by rw [← N_shr', h]
  have l := N_shl a k
  have p := pow_pos' k
  have n := N_nonneg a
  have m1 : N (a <<< k) ≤ N a * 2 ^ k := by
    rw [l]
    by_cases c : N a * 2 ^ k < 18446744073709551616
    · rw [Int.emod_eq_of_lt (Int.mul_nonneg n (by omega)) c]; omega
    · have := Int.emod_lt_of_pos (N a * 2 ^ k) (show (0 : Int) < 18446744073709551616 by decide); omega
  have m2 : N a * 2 ^ k ≤ N (a <<< k) := by
    rw [← e]
    exact Int.ediv_mul_le _ (by omega)
  omega
theorem Z_shl_mod (a : W64) (k : Nat) : ∃ q : Int, Z (a <<< k) = Z a * 2 ^ k + q * 18446744073709551616 := by
  have h1 := two_forms a
  have h2 := two_forms (a <<< k)
  have l := N_shl a k
  have d := Int.emod_add_mul_ediv (N a * 2 ^ k) 18446744073709551616
  rw [← l] at d
  rcases h1.2.2 with ⟨_, e1⟩ | ⟨_, e1⟩ <;> rcases h2.2.2 with ⟨_, e2⟩ | ⟨_, e2⟩
  · exact ⟨-(N a * 2 ^ k / 18446744073709551616), by rw [e2, e1]; omega⟩
  · exact ⟨-(N a * 2 ^ k / 18446744073709551616) - 1, by rw [e2, e1]; omega⟩
  · refine ⟨-(N a * 2 ^ k / 18446744073709551616) + 2 ^ k, ?_⟩
    rw [e2, e1, Int.sub_mul, Int.add_mul]
    generalize (2 : Int) ^ k = p at *
    generalize N a * p = t at *
    omega
  · refine ⟨-(N a * 2 ^ k / 18446744073709551616) + 2 ^ k - 1, ?_⟩
    rw [e2, e1, Int.sub_mul, Int.sub_mul, Int.add_mul]
    generalize (2 : Int) ^ k = p at *
    generalize N a * p = t at *
    omega
theorem Z_range (a : W64) : -9223372036854775808 ≤ Z a ∧ Z a ≤ 9223372036854775807 := by have := two_forms a; omega
theorem Z_shl_back {a : W64} {k : Nat} (h : (a <<< k).sshiftRight k = a) : Z (a <<< k) = Z a * 2 ^ k := by
  have e : Z (a <<< k) / 2 ^ k = Z a := by rw [← Z_shr', h]
  have p := pow_pos' k
  obtain ⟨q, hq⟩ := Z_shl_mod a k
  by_cases hk : k < 64
  · obtain ⟨r, hr⟩ : ∃ r : Int, (18446744073709551616 : Int) = 2 ^ k * r := ⟨2 ^ (64 - k), by rw [← Int.pow_add]; rw [show k + (64 - k) = 64 by omega]; decide⟩
    have h2 : Z (a <<< k) = 2 ^ k * (Z a + q * r) := by
      rw [hq, hr, Int.mul_add, Int.mul_comm (Z a)]
      congr 1
      rw [← Int.mul_assoc, Int.mul_comm q, Int.mul_assoc]
    rw [h2, Int.mul_ediv_cancel_left _ (by omega)] at e
    rw [h2, e, Int.mul_comm]
  · have h0 : a <<< k = 0#64 := by apply BitVec.eq_of_toNat_eq; simp [BitVec.toNat_shiftLeft, Nat.shiftLeft_eq]; rw [show k = 64 + (k - 64) by omega, Nat.pow_add]; rw [← Nat.mul_assoc, Nat.mul_comm a.toNat, Nat.mul_assoc]; exact Nat.mul_mod_right _ _
    rw [h0, Z0] at e ⊢
    have : Z a = 0 := by rw [← e]; simp
    rw [this]; simp
theorem Z_shl_mid {a x b : W64} {k : Nat} (h1 : (a <<< k).sshiftRight k = a) (h2 : (b <<< k).sshiftRight k = b) (l1 : Z a ≤ Z x) (l2 : Z x ≤ Z b) : Z (x <<< k) = Z x * 2 ^ k := by
  have e1 := Z_shl_back h1
  have e2 := Z_shl_back h2
  have r1 := Z_range (a <<< k)
  have r2 := Z_range (b <<< k)
  have r3 := Z_range (x <<< k)
  have p := pow_pos' k
  obtain ⟨q, hq⟩ := Z_shl_mod x k
  have m1 := Int.mul_le_mul_of_nonneg_right l1 (show (0 : Int) ≤ 2 ^ k by omega)
  have m2 := Int.mul_le_mul_of_nonneg_right l2 (show (0 : Int) ≤ 2 ^ k by omega)
  have : q = 0 := by omega
  rw [hq, this]; omega
theorem lshR_has {a : Sp} {x : W64} (k : Nat) (ha : SHas a x) : SHas (lshR a k) (x <<< k) := by
  obtain ⟨a1, a2, a3, a4⟩ := ha
  have p := pow_pos' k
  refine settled_has (common_has (ends_has fun hk => ?_) (sends_has fun hk => ?_))
  · have e := N_shl_back (eq_of_beq hk)
    have l1 := N_shl a.lo k
    have l2 := N_shl x k
    have m1 := Int.mul_le_mul_of_nonneg_right a1 (show (0 : Int) ≤ 2 ^ k by omega)
    have m2 := Int.mul_le_mul_of_nonneg_right a2 (show (0 : Int) ≤ 2 ^ k by omega)
    have r := N_lt (a.hi <<< k)
    have n1 := Int.mul_nonneg (N_nonneg a.lo) (show (0 : Int) ≤ 2 ^ k by omega)
    have n2 := Int.mul_nonneg (N_nonneg x) (show (0 : Int) ≤ 2 ^ k by omega)
    rw [Int.emod_eq_of_lt n1 (by omega)] at l1
    rw [Int.emod_eq_of_lt n2 (by omega)] at l2
    omega
  · simp only [Bool.and_eq_true] at hk
    have h1 := eq_of_beq hk.1
    have h2 := eq_of_beq hk.2
    rw [Z_shl_back h1, Z_shl_back h2, Z_shl_mid h1 h2 a3 a4]
    exact ⟨Int.mul_le_mul_of_nonneg_right a3 (by omega), Int.mul_le_mul_of_nonneg_right a4 (by omega)⟩
def halfW : W64 := 4294967295#64
def uptoS (hi : W64) : Sp := if N hi ≤ 9223372036854775807 then ⟨0#64, hi, 0#64, hi⟩ else ⟨0#64, hi, minW, maxW⟩
theorem upto_has {hi v : W64} (h : N v ≤ N hi) : SHas (uptoS hi) v := by
  have h1 := two_forms hi
  have h2 := two_forms v
  unfold uptoS
  split
  · unfold SHas; simp only [N0, Z0]; omega
  · exact plain_has ⟨by rw [N0]; omega, h⟩
theorem upto_valid (hi : W64) : SValid (uptoS hi) := by
  have h1 := two_forms hi
  unfold uptoS SValid
  split
  · simp only [N0, Z0]; omega
  · simp only [N0, Z_minW, Z_maxW]; omega
def low32R (a : Sp) : Sp := if a.lo >>> 32 = a.hi >>> 32 then settledS (plainS (a.lo &&& halfW) (a.hi &&& halfW)) else uptoS halfW
theorem N_half (v : W64) : N (v &&& halfW) = N v % 4294967296 := by
  unfold N halfW
  rw [BitVec.toNat_and]
  have : (4294967295#64).toNat = 2 ^ 32 - 1 := by decide
  rw [this, Nat.and_two_pow_sub_one_eq_mod]
  simp
theorem low32R_has {a : Sp} {x : W64} (ha : SHas a x) : SHas (low32R a) (x &&& halfW) := by
  unfold low32R
  split
  · rename_i h
    have e : N a.lo / 4294967296 = N a.hi / 4294967296 := by
      have := congrArg N h
      rw [N_shr', N_shr'] at this
      exact this
    refine settled_has (plain_has ?_)
    rw [N_half, N_half, N_half]
    obtain ⟨a1, a2, -, -⟩ := ha
    omega
  · refine upto_has ?_
    rw [N_half]
    have : N halfW = 4294967295 := by decide
    omega
/-! Products. -/
theorem toInt_mul_mod (a b : W64) : ∃ k : Int, Z (a * b) = Z a * Z b + k * 18446744073709551616 := by
  have h : Z (a * b) = (Z a * Z b).bmod 18446744073709551616 := by unfold Z; exact BitVec.toInt_mul _ _
  rw [h, Int.bmod_def]
  have := Int.emod_add_mul_ediv (Z a * Z b) 18446744073709551616
  generalize Z a * Z b = t at *
  split
  · exact ⟨-(t / 18446744073709551616), by omega⟩
  · exact ⟨-(t / 18446744073709551616) - 1, by omega⟩
def smulP (a b : W64) : W64 := if a = 0#64 ∨ b = 0#64 then 0#64 else a * b
def smulK (a b : W64) : Bool := if a = 0#64 ∨ b = 0#64 then true else ((a * b).sdiv b == a) && !(a == minW && b == -1#64)
theorem Z_zero_iff (a : W64) : a = 0#64 ↔ Z a = 0 := by
  constructor
  · rintro rfl; exact Z0
  · intro h; have := two_forms a; exact (N_zero_iff a).2 (by omega)
theorem Z_inj {a b : W64} (h : Z a = Z b) : a = b := BitVec.eq_of_toInt_eq h
theorem smul_exact {a b : W64} (h : smulK a b = true) : Z (smulP a b) = Z a * Z b := by
  unfold smulK at h
  unfold smulP
  by_cases h0 : a = 0#64 ∨ b = 0#64
  · rw [if_pos h0]
    rcases h0 with rfl | rfl
    · rw [Z0]; simp
    · rw [Z0]; simp
  · rw [if_neg h0] at h ⊢
    simp only [Bool.and_eq_true, Bool.not_eq_true', Bool.and_eq_false_iff] at h
    obtain ⟨h1, h2⟩ := h
    have h1 := eq_of_beq h1
    have hb : ¬ Z b = 0 := fun e => h0 (.inr ((Z_zero_iff b).2 e))
    have hd : Z a = ((Z (a * b)).tdiv (Z b)).bmod 18446744073709551616 := by
      have := congrArg Z h1
      rw [← this]
      unfold Z
      exact BitVec.toInt_sdiv _ _
    obtain ⟨k, hk⟩ := toInt_mul_mod a b
    have rp := Z_range (a * b)
    have ra := Z_range a
    have rb := Z_range b
    have e1 := Int.mul_tdiv_add_tmod (Z (a * b)) (Z b)
    have e2 := Int.natAbs_tdiv_le_natAbs (Z (a * b)) (Z b)
    have e3 : (((Z (a * b)).tmod (Z b)).natAbs : Int) < (Z b).natAbs := by
      have := Int.natAbs_tmod (Z (a * b)) (Z b)
      rw [this]
      exact_mod_cast Nat.mod_lt _ (by omega)
    have excl : ¬ (Z a = -9223372036854775808 ∧ Z b = -1) := by
      rintro ⟨x1, x2⟩
      have y1 : a = minW := Z_inj (by rw [x1, Z_minW])
      have y2 : b = -1#64 := Z_inj (by rw [x2, Zm1])
      rcases h2 with h2 | h2
      · rw [y1] at h2; simp at h2
      · rw [y2] at h2; simp at h2
    generalize Z (a * b) = p at *
    generalize hq : p.tdiv (Z b) = q at *
    generalize p.tmod (Z b) = r at *
    have q1 : q = Z a ∨ (q = 9223372036854775808 ∧ Z a = -9223372036854775808) := by
      rw [Int.bmod_def] at hd
      split at hd <;> omega
    rcases q1 with q1 | ⟨q1, q2⟩
    · rw [q1, Int.mul_comm] at e1
      omega
    · exfalso
      subst q1
      have : Z b = -1 := by
        rcases Int.lt_or_gt_of_ne hb with c | c
        · by_cases c2 : Z b = -1
          · exact c2
          · exfalso; omega
        · exfalso; omega
      exact excl ⟨q2, this⟩
theorem between_low {a b c d x y L : Int} (h1 : a ≤ x) (h2 : x ≤ b) (h3 : c ≤ y) (h4 : y ≤ d) (l1 : L ≤ a * c) (l2 : L ≤ a * d) (l3 : L ≤ b * c) (l4 : L ≤ b * d) : L ≤ x * y := by
  have k1 : L ≤ x * c := by
    by_cases hc : 0 ≤ c
    · exact Int.le_trans l1 (Int.mul_le_mul_of_nonneg_right h1 hc)
    · exact Int.le_trans l3 (Int.mul_le_mul_of_nonpos_right h2 (by omega))
  have k2 : L ≤ x * d := by
    by_cases hd : 0 ≤ d
    · exact Int.le_trans l2 (Int.mul_le_mul_of_nonneg_right h1 hd)
    · exact Int.le_trans l4 (Int.mul_le_mul_of_nonpos_right h2 (by omega))
  by_cases hx : 0 ≤ x
  · exact Int.le_trans k1 (Int.mul_le_mul_of_nonneg_left h3 hx)
  · exact Int.le_trans k2 (Int.mul_le_mul_of_nonpos_left (by omega) h4)
theorem between_high {a b c d x y L : Int} (h1 : a ≤ x) (h2 : x ≤ b) (h3 : c ≤ y) (h4 : y ≤ d) (l1 : a * c ≤ L) (l2 : a * d ≤ L) (l3 : b * c ≤ L) (l4 : b * d ≤ L) : x * y ≤ L := by
  have k1 : x * c ≤ L := by
    by_cases hc : 0 ≤ c
    · exact Int.le_trans (Int.mul_le_mul_of_nonneg_right h2 hc) l3
    · exact Int.le_trans (Int.mul_le_mul_of_nonpos_right h1 (by omega)) l1
  have k2 : x * d ≤ L := by
    by_cases hd : 0 ≤ d
    · exact Int.le_trans (Int.mul_le_mul_of_nonneg_right h2 hd) l4
    · exact Int.le_trans (Int.mul_le_mul_of_nonpos_right h1 (by omega)) l2
  by_cases hx : 0 ≤ x
  · exact Int.le_trans (Int.mul_le_mul_of_nonneg_left h4 hx) k2
  · exact Int.le_trans (Int.mul_le_mul_of_nonpos_left (by omega) h3) k1
def mulHi (a b : W64) : W64 := BitVec.ofNat 64 (a.toNat * b.toNat / 18446744073709551616)
def mLo (a b : Sp) : W64 := smin (smin (smin (smin maxW (smulP a.slo b.slo)) (smulP a.slo b.shi)) (smulP a.shi b.slo)) (smulP a.shi b.shi)
def mHi (a b : Sp) : W64 := smax (smax (smax (smax minW (smulP a.slo b.slo)) (smulP a.slo b.shi)) (smulP a.shi b.slo)) (smulP a.shi b.shi)
def mK (a b : Sp) : Bool := smulK a.slo b.slo && (smulK a.slo b.shi && (smulK a.shi b.slo && smulK a.shi b.shi))
def mulR (a b : Sp) : Sp := settledS (commonS (endsS (a.lo * b.lo) (a.hi * b.hi) (mulHi a.hi b.hi == 0#64)) (sendsS (mLo a b) (mHi a b) (mK a b)))
theorem mulHi_zero {a b : W64} (h : mulHi a b = 0#64) : N a * N b < 18446744073709551616 := by
  have h1 := congrArg BitVec.toNat h
  unfold mulHi at h1
  have hl : a.toNat * b.toNat < 18446744073709551616 * 18446744073709551616 := by
    have := a.isLt; have := b.isLt
    exact Nat.mul_lt_mul'' (by omega) (by omega)
  have h2 : a.toNat * b.toNat / 18446744073709551616 = 0 := by
    rw [BitVec.toNat_ofNat] at h1
    have : a.toNat * b.toNat / 18446744073709551616 < 18446744073709551616 := Nat.div_lt_of_lt_mul hl
    generalize a.toNat * b.toNat / 18446744073709551616 = t at *
    have e : (0#64).toNat = 0 := rfl
    rw [e] at h1
    omega
  unfold N
  rw [← Int.natCast_mul]
  generalize a.toNat * b.toNat = t at *
  omega
theorem N_mul_small {a b : W64} (h : N a * N b < 18446744073709551616) : N (a * b) = N a * N b := by
  unfold N at *
  rw [BitVec.toNat_mul]
  have h' : a.toNat * b.toNat < 18446744073709551616 := by
    rw [← Int.natCast_mul] at h
    generalize a.toNat * b.toNat = t at *
    omega
  rw [Nat.mod_eq_of_lt h']
  exact Int.natCast_mul _ _
theorem mLo_le (a b : Sp) : Z (mLo a b) ≤ Z (smulP a.slo b.slo) ∧ Z (mLo a b) ≤ Z (smulP a.slo b.shi) ∧ Z (mLo a b) ≤ Z (smulP a.shi b.slo) ∧ Z (mLo a b) ≤ Z (smulP a.shi b.shi) := by
  unfold mLo
  simp only [Z_smin]
  generalize Z (smulP a.slo b.slo) = p
  generalize Z (smulP a.slo b.shi) = q
  generalize Z (smulP a.shi b.slo) = r
  generalize Z (smulP a.shi b.shi) = s
  have h1 := Int.min_le_left (min (min (min (Z maxW) p) q) r) s
  have h2 := Int.min_le_right (min (min (min (Z maxW) p) q) r) s
  have h3 := Int.min_le_left (min (min (Z maxW) p) q) r
  have h4 := Int.min_le_right (min (min (Z maxW) p) q) r
  have h5 := Int.min_le_left (min (Z maxW) p) q
  have h6 := Int.min_le_right (min (Z maxW) p) q
  have h7 := Int.min_le_right (Z maxW) p
  exact ⟨Int.le_trans h1 (Int.le_trans h3 (Int.le_trans h5 h7)), Int.le_trans h1 (Int.le_trans h3 h6), Int.le_trans h1 h4, h2⟩
theorem mHi_ge (a b : Sp) : Z (smulP a.slo b.slo) ≤ Z (mHi a b) ∧ Z (smulP a.slo b.shi) ≤ Z (mHi a b) ∧ Z (smulP a.shi b.slo) ≤ Z (mHi a b) ∧ Z (smulP a.shi b.shi) ≤ Z (mHi a b) := by
  unfold mHi
  simp only [Z_smax]
  generalize Z (smulP a.slo b.slo) = p
  generalize Z (smulP a.slo b.shi) = q
  generalize Z (smulP a.shi b.slo) = r
  generalize Z (smulP a.shi b.shi) = s
  have h1 := Int.le_max_left (max (max (max (Z minW) p) q) r) s
  have h2 := Int.le_max_right (max (max (max (Z minW) p) q) r) s
  have h3 := Int.le_max_left (max (max (Z minW) p) q) r
  have h4 := Int.le_max_right (max (max (Z minW) p) q) r
  have h5 := Int.le_max_left (max (Z minW) p) q
  have h6 := Int.le_max_right (max (Z minW) p) q
  have h7 := Int.le_max_right (Z minW) p
  exact ⟨Int.le_trans h7 (Int.le_trans h5 (Int.le_trans h3 h1)), Int.le_trans h6 (Int.le_trans h3 h1), Int.le_trans h4 h1, h2⟩
theorem mulR_has {a b : Sp} {x y : W64} (ha : SHas a x) (hb : SHas b y) : SHas (mulR a b) (x * y) := by
  obtain ⟨a1, a2, a3, a4⟩ := ha
  obtain ⟨b1, b2, b3, b4⟩ := hb
  refine settled_has (common_has (ends_has fun hk => ?_) (sends_has fun hk => ?_))
  · have h := mulHi_zero (eq_of_beq hk)
    have n1 := N_nonneg a.lo
    have n2 := N_nonneg b.lo
    have l1 : N a.lo * N b.lo ≤ N x * N y := Int.mul_le_mul a1 b1 n2 (by omega)
    have l2 : N x * N y ≤ N a.hi * N b.hi := Int.mul_le_mul a2 b2 (by omega) (by omega)
    rw [N_mul_small (a := a.lo) (by omega), N_mul_small (a := x) (by omega), N_mul_small h]
    exact ⟨l1, l2⟩
  · unfold mK at hk
    simp only [Bool.and_eq_true] at hk
    obtain ⟨k1, k2, k3, k4⟩ := hk
    have l := mLo_le a b
    have m := mHi_ge a b
    rw [smul_exact k1, smul_exact k2, smul_exact k3, smul_exact k4] at l m
    have t1 := between_low a3 a4 b3 b4 l.1 l.2.1 l.2.2.1 l.2.2.2
    have t2 := between_high a3 a4 b3 b4 m.1 m.2.1 m.2.2.1 m.2.2.2
    have r1 := Z_range (mLo a b)
    have r2 := Z_range (mHi a b)
    have r3 := Z_range (x * y)
    obtain ⟨k, hk⟩ := toInt_mul_mod x y
    have : k = 0 := by omega
    rw [hk, this]
    omega
/-! Bit by bit. -/
def lenW (v : W64) : Nat := Lib.bitLen v.toNat
theorem lenW_lt (v : W64) : N v < 2 ^ lenW v := by
  unfold N lenW
  have : v.toNat < 2 ^ Lib.bitLen v.toNat := by
    rcases Nat.eq_zero_or_pos v.toNat with h | h
    · rw [h]; exact Nat.two_pow_pos _
    · exact (Lib.bitLenAux_bounds 64 v.toNat v.isLt (by omega)).2.2
  exact_mod_cast this
theorem lenW_le (v : W64) (k : Nat) (hk : k ≤ 64) (h : N v < 2 ^ k) : lenW v ≤ k := Lib.bitLen_le _ k hk (by unfold N at h; exact_mod_cast h)
theorem lenW_le64 (v : W64) : lenW v ≤ 64 := lenW_le v 64 (by omega) (N_lt v)
def onesW (n : Nat) : W64 := 1#64 <<< n - 1#64
theorem N_ones (n : Nat) (h : n ≤ 64) : N (onesW n) = 2 ^ n - 1 := by
  unfold onesW
  rcases Nat.lt_or_ge n 64 with h1 | h1
  · have hp : (2 : Int) ^ n < 18446744073709551616 := by
      have h2 : 2 ^ n < 2 ^ 64 := Nat.pow_lt_pow_right (a := 2) (by omega) h1
      have e : (2 : Int) ^ n = ((2 ^ n : Nat) : Int) := by simp
      rw [e]
      omega
    have hq := pow_pos' n
    have e : N (1#64 <<< n) = 2 ^ n := by rw [N_shl, N1, Int.one_mul, Int.emod_eq_of_lt (by omega) hp]
    have := N_sub (1#64 <<< n) 1#64
    rw [e, N1] at this
    omega
  · obtain rfl : n = 64 := by omega
    decide
def foldW (v : W64) : W64 := v ^^^ v.sshiftRight 63
theorem sshr63 (v : W64) : v.sshiftRight 63 = if Z v < 0 then -1#64 else 0#64 := by
  apply Z_inj
  rw [Z_shr']
  have := two_forms v
  split
  · rw [Zm1]; omega
  · rw [Z0]; omega
theorem N_fold (v : W64) : N (foldW v) = if Z v < 0 then -1 - Z v else Z v := by
  have := two_forms v
  unfold foldW
  rw [sshr63]
  split
  · have e : v ^^^ -1#64 = ~~~v := by rw [show (-1#64 : W64) = BitVec.allOnes 64 by decide, BitVec.xor_allOnes]
    rw [e]
    have : N (~~~v) = 18446744073709551615 - N v := by
      unfold N; rw [BitVec.toNat_not]; have := v.isLt; omega
    omega
  · rw [BitVec.xor_zero]; omega
def alikeN (a b : Sp) : Nat := max (max (max (max 0 (lenW (foldW a.slo))) (lenW (foldW a.shi))) (lenW (foldW b.slo))) (lenW (foldW b.shi))
def alikeS (a b : Sp) : Sp := signedS (-(onesW (alikeN a b)) - 1#64) (onesW (alikeN a b))
theorem fold_len (v : W64) : lenW (foldW v) ≤ 63 ∧ -(2 ^ lenW (foldW v)) ≤ Z v ∧ Z v < 2 ^ lenW (foldW v) := by
  have h := lenW_lt (foldW v)
  have r := Z_range v
  refine ⟨lenW_le _ 63 (by omega) ?_, ?_⟩
  · rw [N_fold]
    have : (2 : Int) ^ 63 = 9223372036854775808 := by decide
    rw [this]
    split <;> omega
  · rw [N_fold] at h
    split at h <;> omega
theorem pow_mono' {m n : Nat} (h : m ≤ n) : (2 : Int) ^ m ≤ 2 ^ n := by exact_mod_cast Nat.pow_le_pow_right (n := 2) (by decide) h
theorem alikeN_le (a b : Sp) : alikeN a b ≤ 63 ∧ lenW (foldW a.slo) ≤ alikeN a b ∧ lenW (foldW a.shi) ≤ alikeN a b ∧ lenW (foldW b.slo) ≤ alikeN a b ∧ lenW (foldW b.shi) ≤ alikeN a b := by
  have h1 := (fold_len a.slo).1
  have h2 := (fold_len a.shi).1
  have h3 := (fold_len b.slo).1
  have h4 := (fold_len b.shi).1
  unfold alikeN
  generalize lenW (foldW a.slo) = p at *
  generalize lenW (foldW a.shi) = q at *
  generalize lenW (foldW b.slo) = r at *
  generalize lenW (foldW b.shi) = s at *
  omega
theorem Z_ones {n : Nat} (h : n ≤ 63) : Z (onesW n) = 2 ^ n - 1 ∧ Z (-(onesW n) - 1#64) = -(2 ^ n) := by
  have e := N_ones n (by omega)
  have p := pow_pos' n
  have q := pow_mono' h
  rw [show (2 : Int) ^ 63 = 9223372036854775808 by decide] at q
  have f := two_forms (onesW n)
  have e2 : -(onesW n) - 1#64 = ~~~(onesW n) := by
    rw [BitVec.neg_eq_not_add, BitVec.add_sub_cancel]
  have e3 : N (~~~(onesW n)) = 18446744073709551615 - N (onesW n) := by
    unfold N; rw [BitVec.toNat_not]; have := (onesW n).isLt; omega
  have f2 := two_forms (~~~(onesW n))
  rw [e2]
  omega
theorem small_iff (v : W64) (n : Nat) : (-(2 ^ n) ≤ Z v ∧ Z v < 2 ^ n) ↔ (v.sshiftRight n = 0#64 ∨ v.sshiftRight n = -1#64) := by
  have p := pow_pos' n
  have e := Z_shr' v n
  constructor
  · rintro ⟨h1, h2⟩
    by_cases c : 0 ≤ Z v
    · left
      exact Z_inj (by rw [e, Z0]; exact Int.ediv_eq_zero_of_lt c h2)
    · right
      refine Z_inj ?_
      rw [e, Zm1]
      have l1 : -1 ≤ Z v / 2 ^ n := by
        apply Int.le_ediv_of_mul_le p; omega
      have l2 : Z v / 2 ^ n < 0 := Int.ediv_neg_of_neg_of_pos (by omega) p
      omega
  · have m := Int.ediv_mul_le (Z v) (show (2 : Int) ^ n ≠ 0 by omega)
    have m2 := Int.lt_ediv_add_one_mul_self (Z v) p
    rintro (h | h)
    · rw [h, Z0] at e
      rw [← e] at m m2
      omega
    · rw [h, Zm1] at e
      rw [← e] at m m2
      omega
theorem and_small {x y : W64} {n : Nat} (hx : -(2 ^ n) ≤ Z x ∧ Z x < 2 ^ n) (hy : -(2 ^ n) ≤ Z y ∧ Z y < 2 ^ n) : -(2 ^ n) ≤ Z (x &&& y) ∧ Z (x &&& y) < 2 ^ n := by
  rw [small_iff] at *
  rw [BitVec.sshiftRight_and_distrib]
  rcases hx with h | h <;> rcases hy with k | k <;> rw [h, k] <;> decide
theorem or_small {x y : W64} {n : Nat} (hx : -(2 ^ n) ≤ Z x ∧ Z x < 2 ^ n) (hy : -(2 ^ n) ≤ Z y ∧ Z y < 2 ^ n) : -(2 ^ n) ≤ Z (x ||| y) ∧ Z (x ||| y) < 2 ^ n := by
  rw [small_iff] at *
  rw [BitVec.sshiftRight_or_distrib]
  rcases hx with h | h <;> rcases hy with k | k <;> rw [h, k] <;> decide
theorem xor_small {x y : W64} {n : Nat} (hx : -(2 ^ n) ≤ Z x ∧ Z x < 2 ^ n) (hy : -(2 ^ n) ≤ Z y ∧ Z y < 2 ^ n) : -(2 ^ n) ≤ Z (x ^^^ y) ∧ Z (x ^^^ y) < 2 ^ n := by
  rw [small_iff] at *
  rw [BitVec.sshiftRight_xor_distrib]
  rcases hx with h | h <;> rcases hy with k | k <;> rw [h, k] <;> decide
theorem in_small {a b : Sp} {x y : W64} (ha : SHas a x) (hb : SHas b y) : (-(2 ^ alikeN a b) ≤ Z x ∧ Z x < 2 ^ alikeN a b) ∧ (-(2 ^ alikeN a b) ≤ Z y ∧ Z y < 2 ^ alikeN a b) := by
  obtain ⟨-, h1, h2, h3, h4⟩ := alikeN_le a b
  have p1 := pow_mono' h1
  have p2 := pow_mono' h2
  have p3 := pow_mono' h3
  have p4 := pow_mono' h4
  have f1 := (fold_len a.slo).2
  have f2 := (fold_len a.shi).2
  have f3 := (fold_len b.slo).2
  have f4 := (fold_len b.shi).2
  obtain ⟨-, -, a3, a4⟩ := ha
  obtain ⟨-, -, b3, b4⟩ := hb
  generalize (2 : Int) ^ alikeN a b = m at *
  constructor <;> constructor <;> omega
theorem alike_has {a b : Sp} {z : W64} (h : -(2 ^ alikeN a b) ≤ Z z ∧ Z z < 2 ^ alikeN a b) : SHas (alikeS a b) z := by
  have e := Z_ones (alikeN_le a b).1
  refine signed_has ?_
  rw [e.1, e.2]
  generalize (2 : Int) ^ alikeN a b = m at *
  omega
def andR (a b : Sp) : Sp := settledS (commonS (plainS 0#64 (umin a.hi b.hi)) (alikeS a b))
def orR (a b : Sp) : Sp := settledS (commonS (plainS (umax a.lo b.lo) (onesW (lenW (a.hi ||| b.hi)))) (alikeS a b))
def xorR (a b : Sp) : Sp := settledS (commonS (plainS 0#64 (onesW (lenW (a.hi ||| b.hi)))) (alikeS a b))
theorem andR_has {a b : Sp} {x y : W64} (ha : SHas a x) (hb : SHas b y) : SHas (andR a b) (x &&& y) := by
  have s := in_small ha hb
  refine settled_has (common_has (plain_has ?_) (alike_has (and_small s.1 s.2)))
  rw [N0, N_umin]
  have h1 : N (x &&& y) ≤ N x := by unfold N; rw [BitVec.toNat_and]; exact_mod_cast Nat.and_le_left
  have h2 : N (x &&& y) ≤ N y := by unfold N; rw [BitVec.toNat_and]; exact_mod_cast Nat.and_le_right
  have := N_nonneg (x &&& y)
  exact ⟨this, Int.le_min.2 ⟨Int.le_trans h1 ha.2.1, Int.le_trans h2 hb.2.1⟩⟩
theorem or_len {a b : Sp} {x y : W64} (ha : SHas a x) (hb : SHas b y) : x.toNat < 2 ^ lenW (a.hi ||| b.hi) ∧ y.toNat < 2 ^ lenW (a.hi ||| b.hi) := by
  have h := lenW_lt (a.hi ||| b.hi)
  have e : (a.hi ||| b.hi).toNat = a.hi.toNat ||| b.hi.toNat := BitVec.toNat_or _ _
  have l1 : a.hi.toNat ≤ (a.hi ||| b.hi).toNat := by rw [e]; exact Nat.left_le_or
  have l2 : b.hi.toNat ≤ (a.hi ||| b.hi).toNat := by rw [e]; exact Nat.right_le_or
  have h1 := ha.2.1
  have h2 := hb.2.1
  unfold N at *
  have h' : (a.hi ||| b.hi).toNat < 2 ^ lenW (a.hi ||| b.hi) := by exact_mod_cast h
  constructor <;> omega
theorem ones_up {v : W64} {n : Nat} (hn : n ≤ 64) (h : v.toNat < 2 ^ n) : N v ≤ N (onesW n) := by
  rw [N_ones n hn]
  have : N v < 2 ^ n := by unfold N; exact_mod_cast h
  omega
theorem orR_has {a b : Sp} {x y : W64} (ha : SHas a x) (hb : SHas b y) : SHas (orR a b) (x ||| y) := by
  have s := in_small ha hb
  refine settled_has (common_has (plain_has ?_) (alike_has (or_small s.1 s.2)))
  have o := or_len ha hb
  refine ⟨?_, ones_up (lenW_le64 _) (by rw [BitVec.toNat_or]; exact Nat.or_lt_two_pow o.1 o.2)⟩
  rw [N_umax]
  have h1 : N x ≤ N (x ||| y) := by unfold N; rw [BitVec.toNat_or]; exact_mod_cast Nat.left_le_or
  have h2 : N y ≤ N (x ||| y) := by unfold N; rw [BitVec.toNat_or]; exact_mod_cast Nat.right_le_or
  exact Int.max_le.2 ⟨Int.le_trans ha.1 h1, Int.le_trans hb.1 h2⟩
theorem xorR_has {a b : Sp} {x y : W64} (ha : SHas a x) (hb : SHas b y) : SHas (xorR a b) (x ^^^ y) := by
  have s := in_small ha hb
  refine settled_has (common_has (plain_has ?_) (alike_has (xor_small s.1 s.2)))
  have o := or_len ha hb
  exact ⟨by rw [N0]; exact N_nonneg _, ones_up (lenW_le64 _) (by rw [BitVec.toNat_xor]; exact Nat.xor_lt_two_pow o.1 o.2)⟩
end Go.Proofs.Ytchjneodjaakdaa.Spn
