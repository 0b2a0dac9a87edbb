/-
  Lemmas for the laws of this seat, part I: MadeHas, ScHas, ScHas2, ScHas3, Open, Law17a, MapLit, Conds, Holds, HoldsA, HoldsB.
-/
import Derived.Test.YtchjneodjaakdaaGreatPackG
import Derived.ProofKit
import Derived.WalkKit
import Derived.OpenShut
import Derived.WideKeyArgs
import Derived.MapKept
section
namespace Go.Proofs.YtchjneodjaakdaaGreat
open Go.RowKit
open Spn (Sp umax umin smax smin okS tightS anyS settledS commonS minW maxW constS addR subR SHas SValid SIn)
attribute [local go_sem] u64_wrap BitVec.ofInt_add ofInt_N ofInt_Nw u64_and u64_or u64_xor wrap64_N ofInt_Z64 max_N min_N max_Z min_Z w_add w_sub

theorem made_has (v b0 b1 b2 b3 : BitVec 64) : SHas (madeS v b0 b1 b2 b3) v := by
  have hv := Spn.two_forms v
  have m0 : N (umin v b0) ≤ N v := by rw [Spn.N_umin]; exact Int.min_le_left _ _
  have m0' := N_nonneg (umin v b0)
  have nn : N (~~~v) = 18446744073709551615 - N v := by
    unfold N; rw [BitVec.toNat_not]; have := v.isLt; omega
  have m1 : N (umin (~~~v) b1) ≤ N (~~~v) := by rw [Spn.N_umin]; exact Int.min_le_left _ _
  have m1' := N_nonneg (umin (~~~v) b1)
  have e0 : N (BitVec.ofInt 64 (N v - N (umin v b0))) = N v - N (umin v b0) := N_ofInt _ (by omega) (by omega)
  have e1 := Spn.N_add v (umin (~~~v) b1)
  have r2 : N (v - 9223372036854775808#64) = Z v + 9223372036854775808 := by
    have h := Spn.N_sub v 9223372036854775808#64
    rw [show N (9223372036854775808#64) = 9223372036854775808 by decide] at h
    omega
  have r3 : N (BitVec.ofInt 64 (9223372036854775807 - N v)) = 9223372036854775807 - Z v := by
    rw [N_ofInt_mod]
    have : ((2 ^ 64 : Nat) : Int) = 18446744073709551616 := by decide
    rw [this]
    omega
  have d1 : N (downW v b2) ≤ N (v - 9223372036854775808#64) := by rw [downW_N]; exact Int.le_trans (Int.min_le_left _ _) (Int.min_le_left _ _)
  have d2 : N (downW v b2) ≤ 9223372036854775807 := by rw [downW_N]; exact Int.min_le_right _ _
  have d3 := N_nonneg (downW v b2)
  have u1 : N (upW v b3) ≤ N (BitVec.ofInt 64 (9223372036854775807 - N v)) := by rw [upW_N]; exact Int.le_trans (Int.min_le_left _ _) (Int.min_le_left _ _)
  have u2 : N (upW v b3) ≤ 9223372036854775807 := by rw [upW_N]; exact Int.min_le_right _ _
  have u3 := N_nonneg (upW v b3)
  have s2 := Spn.N_sub v (downW v b2)
  have s3 := Spn.N_add v (upW v b3)
  have f2 := Spn.two_forms (v - downW v b2)
  have f3 := Spn.two_forms (v + upW v b3)
  rw [r2] at d1
  rw [r3] at u1
  clear r2 r3
  refine ⟨?_, ?_, ?_, ?_⟩
  · show N (BitVec.ofInt 64 (N v - N (umin v b0))) ≤ N v
    omega
  · show N v ≤ N (v + umin (~~~v) b1)
    omega
  · show Z (v - downW v b2) ≤ Z v
    clear e0 e1 m0 m1 nn s3 f3 u1 u2 u3
    omega
  · show Z v ≤ Z (v + upW v b3)
    clear e0 e1 m0 m1 nn s2 f2 d1 d2 d3
    omega
theorem e_upto9 (w : World) : Calls Tryz.prog 92 #[.int .u64 9] w fun e w' => e = .returned (.agg #[.int .u64 0, .int .u64 9, .int .i64 0, .int .i64 9]) ∧ Grown w w' := by
  have h := sp_upto 9#64 (by decide) w
  have n0 : N (9#64) = 9 := by decide +kernel
  have q0 : N (uptoL 9#64).lo = 0 := by decide +kernel
  have q1 : N (uptoL 9#64).hi = 9 := by decide +kernel
  have q2 : Z (uptoL 9#64).slo = 0 := by decide +kernel
  have q3 : Z (uptoL 9#64).shi = 9 := by decide +kernel
  simp only [q0, q1, q2, q3] at h
  simp only [n0] at h
  exact h
theorem e_const1 (w : World) : Calls Tryz.prog 42 #[.int .u64 1] w fun e w' => e = .returned (.agg #[.int .u64 1, .int .u64 1, .int .i64 1, .int .i64 1]) ∧ Grown w w' := by
  have h := sp_const 1#64 w
  have n0 : N (1#64) = 1 := by decide +kernel
  have q0 : N (constS 1#64).lo = 1 := by decide +kernel
  have q1 : N (constS 1#64).hi = 1 := by decide +kernel
  have q2 : Z (constS 1#64).slo = 1 := by decide +kernel
  have q3 : Z (constS 1#64).shi = 1 := by decide +kernel
  simp only [q0, q1, q2, q3] at h
  simp only [n0] at h
  exact h
theorem e_const10 (w : World) : Calls Tryz.prog 42 #[.int .u64 10] w fun e w' => e = .returned (.agg #[.int .u64 10, .int .u64 10, .int .i64 10, .int .i64 10]) ∧ Grown w w' := by
  have h := sp_const 10#64 w
  have n0 : N (10#64) = 10 := by decide +kernel
  have q0 : N (constS 10#64).lo = 10 := by decide +kernel
  have q1 : N (constS 10#64).hi = 10 := by decide +kernel
  have q2 : Z (constS 10#64).slo = 10 := by decide +kernel
  have q3 : Z (constS 10#64).shi = 10 := by decide +kernel
  simp only [q0, q1, q2, q3] at h
  simp only [n0] at h
  exact h
theorem e_add (w : World) : Calls Tryz.prog 56 #[.agg #[.int .u64 0, .int .u64 9, .int .i64 0, .int .i64 9], .agg #[.int .u64 1, .int .u64 1, .int .i64 1, .int .i64 1]] w fun e w' => e = .returned (.agg #[.int .u64 1, .int .u64 10, .int .i64 1, .int .i64 10]) ∧ Grown w w' := by
  have h := sp_add 0#64 9#64 0#64 9#64 1#64 1#64 1#64 1#64 w
  have n0 : N (0#64) = 0 := by decide +kernel
  have n1 : N (1#64) = 1 := by decide +kernel
  have n2 : N (9#64) = 9 := by decide +kernel
  have z0 : Z (0#64) = 0 := by decide +kernel
  have z1 : Z (1#64) = 1 := by decide +kernel
  have z2 : Z (9#64) = 9 := by decide +kernel
  have q0 : N (addR (settledS (⟨0#64, 9#64, 0#64, 9#64⟩ : Sp)) (settledS (⟨1#64, 1#64, 1#64, 1#64⟩ : Sp))).lo = 1 := by decide +kernel
  have q1 : N (addR (settledS (⟨0#64, 9#64, 0#64, 9#64⟩ : Sp)) (settledS (⟨1#64, 1#64, 1#64, 1#64⟩ : Sp))).hi = 10 := by decide +kernel
  have q2 : Z (addR (settledS (⟨0#64, 9#64, 0#64, 9#64⟩ : Sp)) (settledS (⟨1#64, 1#64, 1#64, 1#64⟩ : Sp))).slo = 1 := by decide +kernel
  have q3 : Z (addR (settledS (⟨0#64, 9#64, 0#64, 9#64⟩ : Sp)) (settledS (⟨1#64, 1#64, 1#64, 1#64⟩ : Sp))).shi = 10 := by decide +kernel
  simp only [q0, q1, q2, q3] at h
  simp only [n0, n1, n2, z0, z1, z2] at h
  exact h
theorem e_sub (w : World) : Calls Tryz.prog 58 #[.agg #[.int .u64 0, .int .u64 9, .int .i64 0, .int .i64 9], .agg #[.int .u64 10, .int .u64 10, .int .i64 10, .int .i64 10]] w fun e w' => e = .returned (.agg #[.int .u64 18446744073709551606, .int .u64 18446744073709551615, .int .i64 (-10), .int .i64 (-1)]) ∧ Grown w w' := by
  have h := sp_sub 0#64 9#64 0#64 9#64 10#64 10#64 10#64 10#64 w
  have n0 : N (0#64) = 0 := by decide +kernel
  have n1 : N (9#64) = 9 := by decide +kernel
  have n2 : N (10#64) = 10 := by decide +kernel
  have z0 : Z (0#64) = 0 := by decide +kernel
  have z1 : Z (9#64) = 9 := by decide +kernel
  have z2 : Z (10#64) = 10 := by decide +kernel
  have q0 : N (subR (settledS (⟨0#64, 9#64, 0#64, 9#64⟩ : Sp)) (settledS (⟨10#64, 10#64, 10#64, 10#64⟩ : Sp))).lo = 18446744073709551606 := by decide +kernel
  have q1 : N (subR (settledS (⟨0#64, 9#64, 0#64, 9#64⟩ : Sp)) (settledS (⟨10#64, 10#64, 10#64, 10#64⟩ : Sp))).hi = 18446744073709551615 := by decide +kernel
  have q2 : Z (subR (settledS (⟨0#64, 9#64, 0#64, 9#64⟩ : Sp)) (settledS (⟨10#64, 10#64, 10#64, 10#64⟩ : Sp))).slo = -10 := by decide +kernel
  have q3 : Z (subR (settledS (⟨0#64, 9#64, 0#64, 9#64⟩ : Sp)) (settledS (⟨10#64, 10#64, 10#64, 10#64⟩ : Sp))).shi = -1 := by decide +kernel
  simp only [q0, q1, q2, q3] at h
  simp only [n0, n1, n2, z0, z1, z2] at h
  exact h
theorem e_both (w : World) : Calls Tryz.prog 118 #[.agg #[.int .u64 0, .int .u64 9, .int .i64 0, .int .i64 9], .agg #[.int .u64 10, .int .u64 20, .int .i64 0, .int .i64 20]] w fun e w' => e = .returned (.tuple #[.agg #[.int .u64 0, .int .u64 0, .int .i64 0, .int .i64 0], .bool false]) ∧ Grown w w' := by
  have h := sp_both 0#64 9#64 0#64 9#64 10#64 20#64 0#64 20#64 w
  have n0 : N (0#64) = 0 := by decide +kernel
  have n1 : N (9#64) = 9 := by decide +kernel
  have n2 : N (10#64) = 10 := by decide +kernel
  have n3 : N (20#64) = 20 := by decide +kernel
  have z0 : Z (0#64) = 0 := by decide +kernel
  have z1 : Z (9#64) = 9 := by decide +kernel
  have z2 : Z (20#64) = 20 := by decide +kernel
  have q0 : N (tightS (commonS (⟨0#64, 9#64, 0#64, 9#64⟩ : Sp) (⟨10#64, 20#64, 0#64, 20#64⟩ : Sp))).lo = 0 := by decide +kernel
  have q1 : N (tightS (commonS (⟨0#64, 9#64, 0#64, 9#64⟩ : Sp) (⟨10#64, 20#64, 0#64, 20#64⟩ : Sp))).hi = 0 := by decide +kernel
  have q2 : Z (tightS (commonS (⟨0#64, 9#64, 0#64, 9#64⟩ : Sp) (⟨10#64, 20#64, 0#64, 20#64⟩ : Sp))).slo = 0 := by decide +kernel
  have q3 : Z (tightS (commonS (⟨0#64, 9#64, 0#64, 9#64⟩ : Sp) (⟨10#64, 20#64, 0#64, 20#64⟩ : Sp))).shi = 0 := by decide +kernel
  have q4 : okS (commonS (⟨0#64, 9#64, 0#64, 9#64⟩ : Sp) (⟨10#64, 20#64, 0#64, 20#64⟩ : Sp)) = false := by decide +kernel
  simp only [q0, q1, q2, q3, q4] at h
  simp only [n0, n1, n2, n3, z0, z1, z2] at h
  exact h
theorem e_has1 (w : World) : Calls Tryz.prog 47 #[.agg #[.int .u64 18446744073709551606, .int .u64 18446744073709551615, .int .i64 (-10), .int .i64 (-1)], .int .u64 18446744073709551615] w fun e w' => e = .returned (.bool true) ∧ Grown w w' := by
  have h := sp_has 18446744073709551606#64 18446744073709551615#64 18446744073709551606#64 18446744073709551615#64 18446744073709551615#64 w
  have n0 : N (18446744073709551606#64) = 18446744073709551606 := by decide +kernel
  have n1 : N (18446744073709551615#64) = 18446744073709551615 := by decide +kernel
  have z0 : Z (18446744073709551606#64) = -10 := by decide +kernel
  have z1 : Z (18446744073709551615#64) = -1 := by decide +kernel
  have q0 : hasB (⟨18446744073709551606#64, 18446744073709551615#64, 18446744073709551606#64, 18446744073709551615#64⟩ : Sp) 18446744073709551615#64 = true := by decide +kernel
  simp only [q0] at h
  simp only [n0, n1, z0, z1] at h
  exact h
theorem e_any (w : World) : Calls Tryz.prog 49 #[] w fun e w' => e = .returned (.agg #[.int .u64 0, .int .u64 18446744073709551615, .int .i64 (-9223372036854775808), .int .i64 9223372036854775807]) ∧ Grown w w' := by
  have h := sp_any w
  have q0 : N (anyS).lo = 0 := by decide +kernel
  have q1 : N (anyS).hi = 18446744073709551615 := by decide +kernel
  have q2 : Z (anyS).slo = -9223372036854775808 := by decide +kernel
  have q3 : Z (anyS).shi = 9223372036854775807 := by decide +kernel
  simp only [q0, q1, q2, q3] at h
  exact h
theorem e_has2 (w : World) : Calls Tryz.prog 47 #[.agg #[.int .u64 0, .int .u64 18446744073709551615, .int .i64 (-9223372036854775808), .int .i64 9223372036854775807], .int .u64 9223372036854775808] w fun e w' => e = .returned (.bool true) ∧ Grown w w' := by
  have h := sp_has 0#64 18446744073709551615#64 9223372036854775808#64 9223372036854775807#64 9223372036854775808#64 w
  have n0 : N (0#64) = 0 := by decide +kernel
  have n1 : N (9223372036854775808#64) = 9223372036854775808 := by decide +kernel
  have n2 : N (18446744073709551615#64) = 18446744073709551615 := by decide +kernel
  have z0 : Z (9223372036854775807#64) = 9223372036854775807 := by decide +kernel
  have z1 : Z (9223372036854775808#64) = -9223372036854775808 := by decide +kernel
  have q0 : hasB (⟨0#64, 18446744073709551615#64, 9223372036854775808#64, 9223372036854775807#64⟩ : Sp) 9223372036854775808#64 = true := by decide +kernel
  simp only [q0] at h
  simp only [n0, n1, n2, z0, z1] at h
  exact h
end Go.Proofs.YtchjneodjaakdaaGreat
end
section
namespace Go.Proofs.YtchjneodjaakdaaGreat.Ex
open Go Go.RowKit
open Go.Proofs.YtchjneodjaakdaaGreat.Spn (Sp okS tightS settledS commonS constS SHas SIn SValid two_forms tight_has tight_in tight_cases plus_in minus_in empty_iff plusS minusS emptyS N0 N1 Z0 Nm1 Zm1 N_half)
open Go.Proofs.YtchjneodjaakdaaGreat.Sc (first_has last_has first_ge last_le firstV firstOk lastV lastOk)

def HasN (a : NI) (v : BitVec 64) : Prop := hasT (tB a.t).1 (tB a.t).2 v ∧ SHas (sB a.s) v
def InR (r : RI) (v : BitVec 64) : Prop := r.ok = true ∧ N (B r.lo) ≤ N v ∧ N v ≤ N (B r.hi)
/-- A run of numbers from 0 on, and one of those below 0; none is empty. -/
def PlusR (r : RI) : Prop := r.ok = true → N (B r.lo) ≤ N (B r.hi) ∧ N (B r.hi) < 9223372036854775808
def MinusR (r : RI) : Prop := r.ok = true → N (B r.lo) ≤ N (B r.hi) ∧ 9223372036854775808 ≤ N (B r.lo)
theorem BN (v : BitVec 64) : B (N v) = v := ofInt_N v
theorem BZ (v : BitVec 64) : B (Z v) = v := B_Z v
theorem B_u64 (x : Int) : B (IntKind.u64.wrap x) = B x := by rw [u64_wrap]; exact BN _
theorem B_i64 (x : Int) : B (IntKind.i64.wrap x) = B x := by
  have e : IntKind.i64.wrap x = Z (BitVec.ofInt 64 x) := by rw [Z_ofInt]; unfold wrap64; rw [IntKind.wrap_i64]
  rw [e]; exact BZ _
/-- The halves of what is drawn. -/
theorem tight_half {X : Sp} (h : okS X = true) : (0 ≤ Z (tightS X).slo → N (tightS X).hi < 9223372036854775808) ∧ (Z (tightS X).shi < 0 → 9223372036854775808 ≤ N (tightS X).lo) ∧
    (Z (tightS X).slo < 0 → 0 ≤ Z (tightS X).shi → N (tightS X).lo ≤ N (tightS X).shi ∧ N (tightS X).slo ≤ N (tightS X).hi) := by
  have ep := empty_iff (plusS X)
  have em := empty_iff (minusS X)
  have fp1 := two_forms (plusS X).1
  have fp2 := two_forms (plusS X).2
  have fm1 := two_forms (minusS X).1
  have fm2 := two_forms (minusS X).2
  have ip := @plus_in X
  have im := @minus_in X
  rcases tight_cases X with ⟨ho, h1, h2⟩ | ⟨ho, h1, h2, e⟩ | ⟨ho, h1, h2, e⟩ | ⟨ho, h1, h2, e⟩
  · rw [h] at ho; cases ho
  all_goals
    simp only [h1, h2, Bool.true_eq_false, Bool.false_eq_true, false_and, or_false, false_or, true_and] at ep em
    rw [e]
    dsimp only
    first
      | (have ip' := ip ep; have im' := im em; clear ip im; omega)
      | (have ip' := ip ep; clear ip im; omega)
      | (have im' := im em; clear ip im; omega)
theorem halves_has {X : Sp} {v : BitVec 64} (_hk : okS X = true) (h : SHas (tightS X) v) :
    (InR (halvesI (sN (tightS X))).1 v ∨ InR (halvesI (sN (tightS X))).2 v) := by
  have hv := two_forms v
  have f1 := two_forms (tightS X).slo
  have f2 := two_forms (tightS X).shi
  obtain ⟨h1, h2, h3, h4⟩ := h
  unfold halvesI sN
  simp only
  split
  · left; exact ⟨rfl, by rw [BN]; exact h1, by rw [BN]; exact h2⟩
  · rename_i n1
    simp only [decide_eq_true_eq] at n1
    split
    · right; exact ⟨rfl, by rw [BN]; exact h1, by rw [BN]; exact h2⟩
    · rename_i n2
      simp only [decide_eq_true_eq] at n2
      by_cases hz : 0 ≤ Z v
      · left
        refine ⟨rfl, by rw [BN]; exact h1, ?_⟩
        simp only [B_u64, BZ]
        omega
      · right
        refine ⟨rfl, ?_, by rw [BN]; exact h2⟩
        simp only [B_u64, BZ]
        omega
theorem halves_parts {X : Sp} (hk : okS X = true) : PlusR (halvesI (sN (tightS X))).1 ∧ MinusR (halvesI (sN (tightS X))).2 := by
  obtain ⟨t1, t2, t3⟩ := tight_half hk
  obtain ⟨⟨v1, v2⟩, _⟩ := tight_in hk
  have f1 := two_forms (tightS X).slo
  have f2 := two_forms (tightS X).shi
  unfold halvesI sN
  simp only
  split
  · rename_i n1
    simp only [decide_eq_true_eq] at n1
    exact ⟨(fun _ => by rw [BN, BN]; exact ⟨v1, t1 n1⟩), (fun h => by cases h)⟩
  · rename_i n1
    simp only [decide_eq_true_eq] at n1
    split
    · rename_i n2
      simp only [decide_eq_true_eq] at n2
      exact ⟨(fun h => by cases h), fun _ => by rw [BN, BN]; exact ⟨v1, t2 n2⟩⟩
    · rename_i n2
      simp only [decide_eq_true_eq] at n2
      have t3' := t3 (by omega) (by omega)
      exact ⟨(fun _ => by simp only [B_u64, BZ, BN]; omega), (fun _ => by simp only [B_u64, BZ, BN]; omega)⟩
theorem among_has {r : RI} {t : TI} {v : BitVec 64} (h : InR r v) (ht : hasT (tB t).1 (tB t).2 v) : InR (amongI r t) v := by
  obtain ⟨h0, h1, h2⟩ := h
  obtain ⟨f1, f2⟩ := first_has (t := tB t) ht h1
  obtain ⟨l1, l2⟩ := last_has (t := tB t) ht h2
  have e1 : firstK t r.lo = true := f1
  have e2 : lastK t r.hi = true := l1
  have e3 : decide (firstI t r.lo > lastI t r.hi) = false := by
    refine decide_eq_false ?_
    unfold firstI lastI
    omega
  unfold amongI
  rw [h0, e1, e2, e3]
  refine ⟨rfl, ?_, ?_⟩
  · show N (B (firstI t r.lo)) ≤ N v
    unfold firstI; rw [BN]; exact f2
  · show N v ≤ N (B (lastI t r.hi))
    unfold lastI; rw [BN]; exact l2
theorem among_in {r : RI} {t : TI} (h : (amongI r t).ok = true) : r.ok = true ∧ N (B r.lo) ≤ N (B (amongI r t).lo) ∧ N (B (amongI r t).lo) ≤ N (B (amongI r t).hi) ∧ N (B (amongI r t).hi) ≤ N (B r.hi) := by
  unfold amongI at h ⊢
  split at h
  · rename_i hc
    rw [if_pos hc]
    simp only [Bool.and_eq_true, Bool.not_eq_true', decide_eq_false_iff_not] at hc
    obtain ⟨⟨⟨h0, h1⟩, h2⟩, h3⟩ := hc
    refine ⟨h0, ?_, ?_, ?_⟩
    · show _ ≤ N (B (firstI t r.lo)); unfold firstI; rw [BN]; exact first_ge h1
    · show N (B (firstI t r.lo)) ≤ N (B (lastI t r.hi))
      unfold firstI lastI at h3 ⊢; rw [BN, BN]; omega
    · show N (B (lastI t r.hi)) ≤ _; unfold lastI; rw [BN]; exact last_le h2
  · cases h
theorem plus_among {r : RI} {t : TI} (h : PlusR r) : PlusR (amongI r t) := fun hk => by
  obtain ⟨h0, h1, h2, h3⟩ := among_in hk
  have := h h0
  exact ⟨h2, by omega⟩
theorem minus_among {r : RI} {t : TI} (h : MinusR r) : MinusR (amongI r t) := fun hk => by
  obtain ⟨h0, h1, h2, h3⟩ := among_in hk
  have := h h0
  exact ⟨h2, by omega⟩
theorem known_has {p m : RI} {v : BitVec 64} (h : InR p v ∨ InR m v) : hasT (tB (knownI p m)).1 (tB (knownI p m)).2 v := by
  unfold knownI
  cases hm : m.ok with
  | false =>
    simp only [Bool.false_eq_true, if_false]
    rcases h with h | h
    · rw [tRangeI, tB_tN]; exact has_range h.2.1 h.2.2
    · exact absurd (hm.symm.trans h.1) (by decide)
  | true =>
    simp only [if_true]
    cases hp : p.ok with
    | false =>
      simp only [Bool.false_eq_true, if_false]
      rcases h with h | h
      · exact absurd (hp.symm.trans h.1) (by decide)
      · rw [tRangeI, tB_tN]; exact has_range h.2.1 h.2.2
    | true =>
      simp only [if_true, tEitherI, tRangeI, tB_tN]
      rcases h with h | h
      · exact has_eitherL (has_range h.2.1 h.2.2)
      · exact has_eitherR (has_range h.2.1 h.2.2)
theorem hull_has {p m : RI} {v : BitVec 64} (hp : PlusR p) (hm : MinusR m) (h : InR p v ∨ InR m v) : SHas (sB (hullI p m)) v := by
  have hv := two_forms v
  have a1 := two_forms (B p.lo)
  have a2 := two_forms (B p.hi)
  have a3 := two_forms (B m.lo)
  have a4 := two_forms (B m.hi)
  unfold hullI
  cases km : m.ok with
  | false =>
    simp only [Bool.false_eq_true, if_false]
    rcases h with h | h
    · have := hp h.1
      obtain ⟨_, h1, h2⟩ := h
      unfold SHas sB
      simp only [B_i64]
      omega
    · exact absurd (km.symm.trans h.1) (by decide)
  | true =>
    have hm' := hm km
    simp only [if_true]
    cases kp : p.ok with
    | false =>
      simp only [Bool.false_eq_true, if_false]
      rcases h with h | h
      · exact absurd (kp.symm.trans h.1) (by decide)
      · obtain ⟨_, h1, h2⟩ := h
        unfold SHas sB
        simp only [B_i64]
        omega
    | true =>
      have hp' := hp kp
      simp only [if_true]
      unfold SHas sB
      simp only [B_i64]
      rcases h with ⟨_, h1, h2⟩ | ⟨_, h1, h2⟩ <;> omega
theorem both_has {a b : TI} {v : BitVec 64} (ha : hasT (tB a).1 (tB a).2 v) (hb : hasT (tB b).1 (tB b).2 v) : tBothKI a b = true ∧ hasT (tB (tBothI a b)).1 (tB (tBothI a b)).2 v := by
  obtain ⟨h1, h2⟩ := both_some ha hb
  have e : (N (((tB a).1 ^^^ (tB b).1) &&& ~~~(tB a).2 &&& ~~~(tB b).2) == 0) = true := by rw [h1]; rfl
  refine ⟨e, ?_⟩
  unfold tBothI
  rw [tB_tN]
  unfold tBothV
  rw [if_pos e]
  exact h2
theorem tight_has' {a : NI} {v : BitVec 64} (h : HasN a v) : tightK a = true ∧ HasN (tightI a) v := by
  obtain ⟨ht, hs⟩ := h
  obtain ⟨k1, k2⟩ := tight_has hs
  have e : sTightI a.s = sN (tightS (sB a.s)) := rfl
  have hh := halves_has k1 k2
  have hpm := halves_parts k1
  rw [← e] at hh hpm
  have hin : InR (tP a) v ∨ InR (tM a) v := hh.imp (fun x => among_has x ht) (fun x => among_has x ht)
  have hp : PlusR (tP a) := plus_among hpm.1
  have hm : MinusR (tM a) := minus_among hpm.2
  have hok : ((tP a).ok || (tM a).ok) = true := by
    rcases hin with h | h
    · rw [h.1]; rfl
    · rw [h.1]; simp
  obtain ⟨b1, b2⟩ := both_has ht (known_has hin)
  have hk : tightK a = true := by
    unfold tightK
    rw [show sTightKI a.s = true from k1, hok, b1]; rfl
  refine ⟨hk, ?_⟩
  unfold tightI
  rw [if_pos hk]
  exact ⟨b2, hull_has hp hm hin⟩
theorem tight_okT {a : NI} (h : tightK a = true) : okT (tB (tightI a).t).1 (tB (tightI a).t).2 := by
  have h' := h
  unfold tightK at h'
  simp only [Bool.and_eq_true] at h'
  have hb : (N (((tB a.t).1 ^^^ (tB (knownI (tP a) (tM a))).1) &&& ~~~(tB a.t).2 &&& ~~~(tB (knownI (tP a) (tM a))).2) == 0) = true := h'.2
  unfold tightI
  rw [if_pos h]
  show okT (tB (tBothI a.t (knownI (tP a) (tM a)))).1 _
  unfold tBothI
  rw [tB_tN]
  unfold tBothV
  rw [if_pos hb]
  exact ok_of _ _
theorem settled_has' {a : NI} {v : BitVec 64} (h : HasN a v) : HasN (settledI a) v := by
  unfold settledI
  split
  · exact (tight_has' h).2
  · exact h
theorem and_all (v : BitVec 64) : v &&& 18446744073709551615#64 = v := by rw [show (18446744073709551615#64 : BitVec 64) = BitVec.allOnes 64 from by decide, BitVec.and_allOnes]
theorem any_has' (v : BitVec 64) : HasN anyN v := by
  refine ⟨?_, ?_⟩
  · show v &&& ~~~(B 18446744073709551615) = B 0
    have e : ~~~(B 18446744073709551615) = 0#64 := by decide
    rw [e, show B 0 = 0#64 from rfl]; simp
  · exact Spn.any_has v
theorem const_has' (v : BitVec 64) : HasN (constI (N v)) v := by
  refine ⟨?_, ?_⟩
  · show v &&& ~~~(B 0) = B (N v)
    rw [BN, show B 0 = 0#64 from rfl]; simp [and_all]
  · show SHas (sB (sN (constS (B (N v))))) v
    rw [sB_sN, BN]; exact Spn.const_has v
theorem const_okT (x : Int) : okT (tB (constI x).t).1 (tB (constI x).t).2 := by
  show B x &&& B 0 = 0#64
  rw [show B 0 = 0#64 from rfl]; simp
theorem one_has {a : NI} {v : BitVec 64} (hk : oneK a = true) (hw : nW a = true) (h : HasN a v) : oneI a = N v := by
  unfold oneK at hk
  simp only [bne, Bool.not_not, beq_iff_eq] at hk
  unfold oneI
  rw [if_neg (by simp [bne, hk])]
  have h1 : v &&& ~~~(B a.t.m) = B a.t.v := h.1
  rw [hk, show B 0 = 0#64 from rfl] at h1
  have h2 : v = B a.t.v := by simpa [and_all] using h1
  unfold nW tW at hw
  simp only [Bool.and_eq_true] at hw
  obtain ⟨y, hy⟩ := uB_eq hw.1.1
  rw [h2, hy, BN]
end Go.Proofs.YtchjneodjaakdaaGreat.Ex
end
section
namespace Go.Proofs.YtchjneodjaakdaaGreat.Ex
open Go Go.RowKit
open Go.Proofs.YtchjneodjaakdaaGreat.Spn (Sp okS tightS settledS commonS constS SHas two_forms N0 N1 Z0 settled_has addR_has subR_has mulR_has divR_has modR_has andR_has orR_has xorR_has lshR_has rshR_has arshR_has low32R_has halfW N_half N_shr' Z_shr')

theorem half_set (z : BitVec 64) : z &&& halfW = (z.setWidth 32).setWidth 64 := by
  apply BitVec.eq_of_toNat_eq
  have h := N_half z
  unfold N at h
  rw [BitVec.toNat_setWidth, BitVec.toNat_setWidth]
  have := z.isLt
  omega
theorem upto_has' {h : Int} {z : BitVec 64} (hw : uB h = true) (hz : N z ≤ N (B h)) : HasN (uptoI h) z := by
  obtain ⟨y, rfl⟩ := uB_eq hw
  rw [BN y] at hz
  have fz := two_forms z
  have fy := two_forms y
  refine ⟨?_, ?_⟩
  · show hasT (tB (tRangeI 0 (N y))).1 (tB (tRangeI 0 (N y))).2 z
    rw [tRangeI, tB_tN, BN y]
    exact has_range (by rw [show B 0 = 0#64 from rfl, N0]; exact N_nonneg z) hz
  · show SHas (sB (sUptoI (N y))) z
    unfold sUptoI
    split
    · rename_i hc
      simp only [decide_eq_true_eq] at hc
      unfold SHas sB
      simp only [B_i64, BN y, show B 0 = 0#64 from rfl, N0, Z0]
      omega
    · unfold SHas sB
      simp only [BN y, show B 0 = 0#64 from rfl, N0, show Z (B (-9223372036854775808)) = -9223372036854775808 from by decide, show Z (B 9223372036854775807) = 9223372036854775807 from by decide]
      omega
theorem small_mod {c : BitVec 64} (h : c.toNat < 64) : (B (N c) &&& 63#64).toNat = c.toNat ∧ (N c % 64).toNat = c.toNat := by
  constructor
  · rw [BN, BitVec.toNat_and, show (63#64 : BitVec 64).toNat = 2 ^ 6 - 1 from rfl, Nat.and_two_pow_sub_one_eq_mod, Nat.mod_eq_of_lt h]
  · unfold N; omega
theorem lsh_has' {a : NI} {v c : BitVec 64} (hc : c.toNat < 64) (h : HasN a v) : HasN (lshI a (N c)) (v <<< c.toNat) := by
  obtain ⟨e1, e2⟩ := small_mod hc
  refine ⟨?_, ?_⟩
  · show hasT (tB (tLshI a.t (N c))).1 (tB (tLshI a.t (N c))).2 _
    rw [tLshI, tB_tN, e1]; exact has_lsh h.1 _
  · show SHas (sB (sLshI a.s (N c))) _
    rw [sLshI, sB_sN, e2]; exact lshR_has _ (settled_has h.2)
theorem rsh_has' {a : NI} {v c : BitVec 64} (hc : c.toNat < 64) (h : HasN a v) : HasN ⟨tRshI a.t (N c), sRshI a.s (N c)⟩ (v >>> c.toNat) := by
  obtain ⟨e1, e2⟩ := small_mod hc
  refine ⟨?_, ?_⟩
  · show hasT (tB (tRshI a.t (N c))).1 (tB (tRshI a.t (N c))).2 _
    rw [tRshI, tB_tN, e1]; exact has_rsh h.1 _
  · show SHas (sB (sRshI a.s (N c))) _
    rw [sRshI, sB_sN, e2]; exact rshR_has _ (settled_has h.2)
theorem arsh_has' {a : NI} {v c : BitVec 64} (hc : c.toNat < 64) (h : HasN a v) : HasN (arshI a (N c)) (v.sshiftRight c.toNat) := by
  obtain ⟨e1, e2⟩ := small_mod hc
  refine ⟨?_, ?_⟩
  · show hasT (tB (tArshI a.t (N c))).1 (tB (tArshI a.t (N c))).2 _
    rw [tArshI, tB_tN, e1]; exact has_arsh h.1 _
  · show SHas (sB (sArshI a.s (N c))) _
    rw [sArshI, sB_sN, e2]; exact arshR_has _ (settled_has h.2)
theorem low_has' {a : NI} {v : BitVec 64} (h : HasN a v) : HasN (lowI a) (v &&& halfW) := by
  refine settled_has' ⟨?_, ?_⟩
  · show hasT (tB (tLowI a.t 32)).1 (tB (tLowI a.t 32)).2 _
    rw [tLowI, tB_tN]
    unfold tLow
    rw [if_neg (by omega), if_neg (by omega), show (1#64 <<< (32 : Int).toNat - 1#64 : BitVec 64) = halfW from by decide]
    exact has_low h.1 halfW
  · show SHas (sB (sLowI a.s)) _
    rw [sLowI, sB_sN]; exact low32R_has (settled_has h.2)
theorem and_N (y m : BitVec 64) (n : Int) (hm : B n = m) : andI (N y) n = N (y &&& m) := by
  unfold andI
  show IntKind.u64.wrap (((B (N y) &&& B n).toNat : Nat) : Int) = _
  rw [hm, BN, u64_wrap, BitVec.ofInt_natCast, BitVec.ofNat_toNat, BitVec.setWidth_eq]
theorem cnt_N (y m : BitVec 64) (n : Int) (hm : B n = m) (hs : (y &&& m).toNat < 9223372036854775808) : cntI (N y) n = N (y &&& m) := by
  unfold cntI
  rw [and_N y m n hm, i64_wrap_N]
  have := two_forms (y &&& m)
  have h : N (y &&& m) < 9223372036854775808 := by unfold N; omega
  omega
theorem and63_lt (y : BitVec 64) : (y &&& 63#64).toNat = y.toNat % 64 := by
  rw [BitVec.toNat_and, show (63#64 : BitVec 64).toNat = 2 ^ 6 - 1 from rfl, Nat.and_two_pow_sub_one_eq_mod]
theorem and31_lt (y : BitVec 64) : (y &&& 31#64).toNat = y.toNat % 32 := by
  rw [BitVec.toNat_and, show (31#64 : BitVec 64).toNat = 2 ^ 5 - 1 from rfl, Nat.and_two_pow_sub_one_eq_mod]
theorem N_sshr_le {x : BitVec 64} (k : Nat) (h : 0 ≤ Z x) : N (x.sshiftRight k) ≤ N x := by
  have h1 := Z_shr' x k
  have h2 := two_forms x
  have h3 := two_forms (x.sshiftRight k)
  have hp : (0 : Int) < 2 ^ k := by exact_mod_cast Nat.two_pow_pos k
  have h4 : 0 ≤ Z x / 2 ^ k := Int.ediv_nonneg h (by omega)
  have h5 : Z x / 2 ^ k ≤ Z x := Int.ediv_le_self _ h
  omega
theorem moved_has {a b : NI} {x y : BitVec 64} (ha : HasN a x) (hb : HasN b y) (wa : nW a = true) (wb : nW b = true) :
    HasN (movedI 96 a b) (x <<< (y.toNat % 64)) ∧ HasN (movedI 112 a b) (x >>> (y.toNat % 64)) ∧ HasN (movedI 192 a b) (x.sshiftRight (y.toNat % 64)) := by
  have e63 : (y &&& 63#64).toNat = y.toNat % 64 := and63_lt y
  have wa' := wa
  unfold nW sW at wa'
  simp only [Bool.and_eq_true] at wa'
  obtain ⟨hh, ehh⟩ := uB_eq wa'.2.1.1.2
  cases k : oneK b with
  | true =>
    have e1 := one_has k wb hb
    have e2 : cntI (oneI b) 63 = N (y &&& 63#64) := by rw [e1]; exact cnt_N y _ 63 rfl (by rw [e63]; omega)
    have hlt : (y &&& 63#64).toNat < 64 := by rw [e63]; omega
    refine ⟨?_, ?_, ?_⟩
    · unfold movedI; rw [if_pos k, if_pos rfl, e2, ← e63]; exact lsh_has' hlt ha
    · unfold movedI; rw [if_pos k, if_neg (by decide), if_pos rfl, e2, ← e63]; exact rsh_has' hlt ha
    · unfold movedI; rw [if_pos k, if_neg (by decide), if_neg (by decide), e2, ← e63]; exact arsh_has' hlt ha
  | false =>
    have kn : ¬ oneK b = true := by rw [k]; decide
    have hx : N x ≤ N (B a.s.hi) := ha.2.2.1
    refine ⟨?_, ?_, ?_⟩
    · unfold movedI; rw [if_neg kn, if_neg (by decide), if_neg (by decide)]; exact any_has' _
    · unfold movedI; rw [if_neg kn, if_pos rfl]
      refine upto_has' wa'.2.1.1.2 (Int.le_trans ?_ hx)
      rw [N_shr']
      have hp : (0 : Int) < 2 ^ (y.toNat % 64) := by exact_mod_cast Nat.two_pow_pos _
      exact Int.ediv_le_self _ (N_nonneg x)
    · unfold movedI; rw [if_neg kn, if_neg (by decide), if_pos rfl]
      obtain ⟨z, ez⟩ := zB_eq wa'.2.1.2
      obtain ⟨u, eu⟩ := zB_eq wa'.2.2
      have hlo : Z (B a.s.slo) ≤ Z x := ha.2.2.2.1
      have hhi : Z x ≤ Z (B a.s.shi) := ha.2.2.2.2
      rw [ez, BZ] at hlo
      rw [eu, BZ] at hhi
      split
      · rename_i hc
        simp only [decide_eq_true_eq] at hc
        exact upto_has' wa'.2.1.1.2 (Int.le_trans (N_sshr_le _ (by omega)) hx)
      · rename_i hc
        simp only [decide_eq_true_eq] at hc
        have h1 := Z_shr' x (y.toNat % 64)
        have hp : (0 : Int) < 2 ^ (y.toNat % 64) := by exact_mod_cast Nat.two_pow_pos _
        have fs := two_forms (x.sshiftRight (y.toNat % 64))
        have fx := two_forms x
        refine ⟨(any_has' _).1, ?_⟩
        have g1 : Z z ≤ Z (x.sshiftRight (y.toNat % 64)) := by
          rw [h1]
          by_cases hn : 0 ≤ Z x
          · have := Int.ediv_nonneg hn (Int.le_of_lt hp); omega
          · have : Z x ≤ Z x / 2 ^ (y.toNat % 64) := by
              rw [Int.le_ediv_iff_mul_le hp]
              generalize (2 : Int) ^ (y.toNat % 64) = P at *
              have := Int.mul_le_mul_of_nonneg_right (show Z x ≤ 0 by omega) (show 0 ≤ P - 1 by omega)
              rw [Int.mul_sub, Int.mul_one, Int.zero_mul] at this
              omega
            omega
        have g2 : Z (x.sshiftRight (y.toNat % 64)) ≤ (if -1 > Z u then -1 else Z u) := by
          rw [h1]
          by_cases hn : 0 ≤ Z x
          · have := Int.ediv_le_self (2 ^ (y.toNat % 64)) hn
            split <;> omega
          · have : Z x / 2 ^ (y.toNat % 64) < 0 := Int.ediv_neg_of_neg_of_pos (by omega) hp
            split <;> omega
        unfold SHas sB
        simp only
        rw [ez, eu, BZ]
        have e : Z (B (if -1 > Z u then -1 else Z u)) = if -1 > Z u then -1 else Z u := by
          split
          · decide
          · rw [BZ]
        rw [e]
        refine ⟨by rw [show B 0 = 0#64 from rfl, N0]; omega, by rw [show N (B 18446744073709551615) = 18446744073709551615 from by decide]; omega, g1, g2⟩
end Go.Proofs.YtchjneodjaakdaaGreat.Ex
end
section
namespace Go.Proofs.YtchjneodjaakdaaGreat.Ex
open Go Go.RowKit
open Go.Proofs.YtchjneodjaakdaaGreat.Spn (Sp okS tightS settledS commonS constS SHas two_forms N0 N1 Z0 settled_has addR_has subR_has mulR_has divR_has modR_has andR_has orR_has xorR_has halfW N_half)

def OkN (a : NI) : Prop := okT (tB a.t).1 (tB a.t).2
theorem T_has {t : TI} {x : BitVec 64 × BitVec 64} (e : t = tN x) {v : BitVec 64} (h : hasT x.1 x.2 v) : hasT (tB t).1 (tB t).2 v := by rw [e, tB_tN]; exact h
theorem S_has {s : SI} {x : Sp} (e : s = sN x) {v : BitVec 64} (h : SHas x v) : SHas (sB s) v := by rw [e, sB_sN]; exact h
theorem anyT_has (v : BitVec 64) : hasT (tB anyT).1 (tB anyT).2 v := (any_has' v).1
theorem aluW_shift {x y : BitVec 64} : aluW 96 x y = x <<< (y.toNat % 64) ∧ aluW 112 x y = x >>> (y.toNat % 64) ∧ aluW 192 x y = x.sshiftRight (y.toNat % 64) := ⟨rfl, rfl, rfl⟩
theorem do_has {op : Int} {a b : NI} {x y : BitVec 64} (ha : HasN a x) (hb : HasN b y) (oa : OkN a) (ob : OkN b) (wa : nW a = true) (wb : nW b = true) : HasN (doI op a b) (aluW op x y) := by
  have sa := settled_has ha.2
  have sb := settled_has hb.2
  obtain ⟨m1, m2, m3⟩ := moved_has ha hb wa wb
  rcases alu_cases op with rfl | rfl | rfl | rfl | rfl | rfl | rfl | rfl | rfl | rfl | rfl | rfl | rfl | hn
  · exact ⟨T_has (t := tAddI a.t b.t) rfl (has_add oa ob ha.1 hb.1), S_has (s := sAddI a.s b.s) rfl (addR_has sa sb)⟩
  · exact ⟨T_has (t := tSubI a.t b.t) rfl (has_sub oa ob ha.1 hb.1), S_has (s := sSubI a.s b.s) rfl (subR_has sa sb)⟩
  · exact ⟨T_has (t := tMulI a.t b.t) rfl (has_mul oa ob ha.1 hb.1), S_has (s := sMulI a.s b.s) rfl (mulR_has sa sb)⟩
  · exact ⟨anyT_has _, S_has (s := sDivI a.s b.s) rfl (divR_has sa sb)⟩
  · refine ⟨anyT_has _, S_has (s := sModI a.s b.s) rfl ?_⟩
    have h := modR_has sa sb
    by_cases hy : y = 0#64
    · rw [if_pos hy] at h
      show SHas _ (x % y)
      rw [hy, BitVec.umod_zero]; exact h
    · rw [if_neg hy] at h; exact h
  · exact ⟨T_has (t := tOrI a.t b.t) rfl (has_or ha.1 hb.1), S_has (s := sOrI a.s b.s) rfl (orR_has sa sb)⟩
  · exact ⟨T_has (t := tAndI a.t b.t) rfl (has_and ha.1 hb.1), S_has (s := sAndI a.s b.s) rfl (andR_has sa sb)⟩
  · exact ⟨T_has (t := tXorI a.t b.t) rfl (has_xor ha.1 hb.1), S_has (s := sXorI a.s b.s) rfl (xorR_has sa sb)⟩
  · exact m1
  · exact m2
  · exact m3
  · have c0 : HasN (constI 0) 0#64 := const_has' 0#64
    have h : (0#64 - x) = aluW 128 x y := by show 0#64 - x = -x; simp
    rw [← h]
    exact ⟨T_has (t := tSubI (constI 0).t a.t) rfl (has_sub (const_okT 0) oa c0.1 ha.1), S_has (s := sSubI (constI 0).s a.s) rfl (subR_has (settled_has c0.2) sa)⟩
  · exact hb
  · rw [aluW_none hn]
    obtain ⟨n0, n16, n32, n48, n144, n64, n80, n160, n96, n112, n192, n128, n176⟩ := hn
    simp only [doI, if_neg n0, if_neg n16, if_neg n32, if_neg n48, if_neg n144, if_neg n64, if_neg n80, if_neg n160, if_neg n96, if_neg n112, if_neg n192, if_neg n128, if_neg n176]
    exact const_has' 0#64
/-! 32 bits within 64. -/
theorem ext_nat (x : BitVec 32) : (x.setWidth 64).toNat = x.toNat := by rw [BitVec.toNat_setWidth]; have := x.isLt; omega
theorem low_back (x : BitVec 32) : (x.setWidth 64).setWidth 32 = x := by
  apply BitVec.eq_of_toNat_eq
  rw [BitVec.toNat_setWidth, ext_nat]; have := x.isLt; omega
theorem alu_low {op : Int} (x y : BitVec 32) (h1 : ¬ op = 96) (h2 : ¬ op = 112) (h3 : ¬ op = 192) : (aluW op (x.setWidth 64) (y.setWidth 64)).setWidth 32 = aluW op x y := by
  have hx := x.isLt
  have hy := y.isLt
  rcases alu_cases op with rfl | rfl | rfl | rfl | rfl | rfl | rfl | rfl | rfl | rfl | rfl | rfl | rfl | hn
  · show (x.setWidth 64 + y.setWidth 64).setWidth 32 = x + y
    apply BitVec.eq_of_toNat_eq
    rw [BitVec.toNat_setWidth, BitVec.toNat_add, BitVec.toNat_add, ext_nat, ext_nat]; omega
  · show (x.setWidth 64 - y.setWidth 64).setWidth 32 = x - y
    apply BitVec.eq_of_toNat_eq
    rw [BitVec.toNat_setWidth, BitVec.toNat_sub, BitVec.toNat_sub, ext_nat, ext_nat]; omega
  · show (x.setWidth 64 * y.setWidth 64).setWidth 32 = x * y
    apply BitVec.eq_of_toNat_eq
    rw [BitVec.toNat_setWidth, BitVec.toNat_mul, BitVec.toNat_mul, ext_nat, ext_nat, Nat.mod_mod_of_dvd _ (Nat.pow_dvd_pow 2 (by decide))]
  · show (x.setWidth 64 / y.setWidth 64).setWidth 32 = x / y
    apply BitVec.eq_of_toNat_eq
    rw [BitVec.toNat_setWidth, BitVec.toNat_udiv, BitVec.toNat_udiv, ext_nat, ext_nat]
    exact Nat.mod_eq_of_lt (Nat.lt_of_le_of_lt (Nat.div_le_self x.toNat y.toNat) hx)
  · show (x.setWidth 64 % y.setWidth 64).setWidth 32 = x % y
    apply BitVec.eq_of_toNat_eq
    rw [BitVec.toNat_setWidth, BitVec.toNat_umod, BitVec.toNat_umod, ext_nat, ext_nat]
    have := Nat.mod_le x.toNat y.toNat
    omega
  · show (x.setWidth 64 ||| y.setWidth 64).setWidth 32 = x ||| y
    rw [BitVec.setWidth_or, low_back, low_back]
  · show (x.setWidth 64 &&& y.setWidth 64).setWidth 32 = x &&& y
    rw [BitVec.setWidth_and, low_back, low_back]
  · show (x.setWidth 64 ^^^ y.setWidth 64).setWidth 32 = x ^^^ y
    rw [BitVec.setWidth_xor, low_back, low_back]
  · exact absurd rfl h1
  · exact absurd rfl h2
  · exact absurd rfl h3
  · show (-(x.setWidth 64)).setWidth 32 = -x
    apply BitVec.eq_of_toNat_eq
    rw [BitVec.toNat_setWidth, BitVec.toNat_neg, BitVec.toNat_neg, ext_nat]; omega
  · exact low_back y
  · rw [aluW_none hn, aluW_none hn]; decide
theorem half_of (z : BitVec 32) : z.setWidth 64 &&& halfW = z.setWidth 64 := by rw [half_set, low_back]
theorem const_N (y : BitVec 64) : OkN (constI (N y)) := const_okT _
theorem ext_shift (x : BitVec 32) : ((x.setWidth 64) <<< 32).sshiftRight 32 = x.signExtend 64 := by
  apply BitVec.eq_of_getLsbD_eq
  intro i hi
  rw [BitVec.getLsbD_sshiftRight, BitVec.getLsbD_signExtend]
  have hm : ((x.setWidth 64) <<< 32).msb = x.msb := by
    rw [BitVec.msb_eq_getLsbD_last, BitVec.msb_eq_getLsbD_last]
    simp []
  by_cases h : i < 32
  · simp [hi, h, show 32 + i < 64 by omega, show ¬ 64 ≤ i by omega]
  · simp [hi, h, show ¬ 32 + i < 64 by omega, show ¬ 64 ≤ i by omega, hm]
theorem arsh_low (x : BitVec 32) (k : Nat) : ((x.signExtend 64).sshiftRight k).setWidth 32 = x.sshiftRight k := by
  apply BitVec.eq_of_getLsbD_eq
  intro i hi
  rw [BitVec.getLsbD_setWidth, BitVec.getLsbD_sshiftRight, BitVec.getLsbD_sshiftRight]
  have hm : (x.signExtend 64).msb = x.msb := by
    rw [BitVec.msb_eq_getLsbD_last, BitVec.getLsbD_signExtend]
    simp
  simp only [hi, decide_true, Bool.true_and, hm, show ¬ 64 ≤ i by omega, show ¬ 32 ≤ i by omega, decide_false, Bool.not_false]
  by_cases h : k + i < 32
  · rw [if_pos (by omega), if_pos h, BitVec.getLsbD_signExtend]
    simp [h, show k + i < 64 by omega]
  · rw [if_neg h]
    by_cases h2 : k + i < 64
    · rw [if_pos h2, BitVec.getLsbD_signExtend]
      simp [h, h2]
    · rw [if_neg h2]
theorem half_has {op : Int} {a b : NI} {x y : BitVec 32} (ha : HasN a (x.setWidth 64)) (hb : HasN b (y.setWidth 64)) (oa : OkN a) (ob : OkN b) (wa : nW a = true) (wb : nW b = true) :
    ∃ z, HasN (halfDoI op a b) z ∧ z &&& halfW = (aluW op x y).setWidth 64 := by
  have e31 : (y.setWidth 64 &&& 31#64).toNat = y.toNat % 32 := by rw [and31_lt, ext_nat]
  unfold halfDoI
  by_cases h3 : op = 192
  · subst h3
    rw [if_pos rfl]
    cases k : oneK b with
    | true =>
      have e1 := one_has k wb hb
      have e2 : cntI (oneI b) 31 = N (y.setWidth 64 &&& 31#64) := by rw [e1]; exact cnt_N _ _ 31 rfl (by rw [e31]; omega)
      simp only [if_true, e2]
      refine ⟨_, arsh_has' (c := y.setWidth 64 &&& 31#64) (by rw [e31]; omega) (show HasN (extI a) (x.signExtend 64) from ?_), ?_⟩
      · have h1 := arsh_has' (c := 32#64) (by decide) (lsh_has' (c := 32#64) (by decide) ha)
        rw [show (32#64 : BitVec 64).toNat = 32 from rfl, ext_shift] at h1
        exact h1
      · rw [half_set, arsh_low, e31]; rfl
    | false =>
      simp only [Bool.false_eq_true, if_false]
      exact ⟨(aluW 192 x y).setWidth 64, any_has' _, half_of _⟩
  · rw [if_neg h3]
    by_cases h1 : op = 96
    · subst h1
      rw [if_pos rfl]
      cases k : oneK b with
      | true =>
        have e1 := one_has k wb hb
        have e2 : andI (oneI b) 31 = N (y.setWidth 64 &&& 31#64) := by rw [e1]; exact and_N _ _ 31 rfl
        simp only [if_true, e2]
        refine ⟨_, do_has (op := 96) ha (const_has' (y.setWidth 64 &&& 31#64)) oa (const_N _) wa (nW_const (uB_N _)), ?_⟩
        rw [aluW_shift.1, e31, half_set]
        congr 1
        show ((x.setWidth 64) <<< (y.toNat % 32 % 64)).setWidth 32 = x <<< (y.toNat % 32)
        rw [Nat.mod_eq_of_lt (show y.toNat % 32 < 64 by omega)]
        apply BitVec.eq_of_getLsbD_eq
        intro i hi
        simp only [BitVec.getLsbD_setWidth, BitVec.getLsbD_shiftLeft, hi, decide_true, Bool.true_and, show i < 64 by omega]
        by_cases hk : i < y.toNat % 32
        · simp [hk]
        · simp [hk, show i - y.toNat % 32 < 64 by omega]
      | false =>
        simp only [Bool.false_eq_true, if_false]
        refine ⟨(aluW 96 x y).setWidth 64, ?_, half_of _⟩
        have : doI 96 a b = anyN := by
          show movedI 96 a b = anyN
          unfold movedI
          rw [if_neg (by rw [k]; decide), if_neg (by decide), if_neg (by decide)]
        rw [this]; exact any_has' _
    · rw [if_neg h1]
      by_cases h2 : op = 112
      · subst h2
        rw [if_pos rfl]
        cases k : oneK b with
        | true =>
          have e1 := one_has k wb hb
          have e2 : andI (oneI b) 31 = N (y.setWidth 64 &&& 31#64) := by rw [e1]; exact and_N _ _ 31 rfl
          simp only [if_true, e2]
          refine ⟨_, do_has (op := 112) ha (const_has' (y.setWidth 64 &&& 31#64)) oa (const_N _) wa (nW_const (uB_N _)), ?_⟩
          rw [aluW_shift.2.1, e31, half_set]
          congr 1
          show ((x.setWidth 64) >>> (y.toNat % 32 % 64)).setWidth 32 = x >>> (y.toNat % 32)
          rw [Nat.mod_eq_of_lt (show y.toNat % 32 < 64 by omega)]
          apply BitVec.eq_of_toNat_eq
          rw [BitVec.toNat_setWidth, BitVec.toNat_ushiftRight, BitVec.toNat_ushiftRight, ext_nat, Nat.shiftRight_eq_div_pow]
          exact Nat.mod_eq_of_lt (Nat.lt_of_le_of_lt (Nat.div_le_self x.toNat (2 ^ (y.toNat % 32))) x.isLt)
        | false =>
          simp only [Bool.false_eq_true, if_false]
          refine ⟨(aluW 112 x y).setWidth 64, ?_, half_of _⟩
          have : doI 112 a b = uptoI a.s.hi := by
            show movedI 112 a b = _
            unfold movedI
            rw [if_neg (by rw [k]; decide), if_pos rfl]
          rw [this]
          have wa' := wa
          unfold nW sW at wa'
          simp only [Bool.and_eq_true] at wa'
          refine upto_has' wa'.2.1.1.2 (Int.le_trans ?_ ha.2.2.1)
          unfold N
          rw [ext_nat, ext_nat]
          show (((x >>> (y.toNat % 32)).toNat : Nat) : Int) ≤ x.toNat
          rw [BitVec.toNat_ushiftRight, Nat.shiftRight_eq_div_pow]
          have := Nat.div_le_self x.toNat (2 ^ (y.toNat % 32))
          omega
      · rw [if_neg h2]
        exact ⟨_, do_has (op := op) ha hb oa ob wa wb, by rw [half_set, alu_low x y h1 h2 h3]⟩
theorem okT_low {a : NI} {v : BitVec 64} (h : HasN a v) : OkN (lowI a) := by
  unfold lowI settledI
  have hk : HasN ⟨tLowI a.t 32, sLowI a.s⟩ (v &&& halfW) := by
    refine ⟨?_, ?_⟩
    · show hasT (tB (tLowI a.t 32)).1 (tB (tLowI a.t 32)).2 _
      rw [tLowI, tB_tN]
      unfold tLow
      rw [if_neg (by omega), if_neg (by omega), show (1#64 <<< (32 : Int).toNat - 1#64 : BitVec 64) = halfW from by decide]
      exact has_low h.1 halfW
    · show SHas (sB (sLowI a.s)) _
      rw [sLowI, sB_sN]; exact Spn.low32R_has (settled_has h.2)
  rw [if_pos (tight_has' hk).1]
  exact tight_okT (tight_has' hk).1
theorem Do_has {op : Int} {wide : Bool} {a b : NI} {x y : BitVec 64} (ha : HasN a x) (hb : HasN b y) : HasN (DoI op wide a b) (aluS op wide x y) := by
  obtain ⟨ka, ta⟩ := tight_has' ha
  obtain ⟨kb, tb⟩ := tight_has' hb
  unfold DoI
  simp only [ka, kb, Bool.and_self, if_true]
  split
  · rename_i hc
    simp only [Bool.and_eq_true] at hc
    rw [one_has hc.1 (nW_tight a) ta, one_has hc.2 (nW_tight b) tb]
    unfold aluI
    rw [BN, BN]
    exact const_has' _
  · cases wide with
    | true =>
      rw [if_pos rfl]
      exact settled_has' (do_has ta tb (tight_okT ka) (tight_okT kb) (nW_tight a) (nW_tight b))
    | false =>
      rw [if_neg (by decide)]
      have la := low_has' ta
      have lb := low_has' tb
      rw [half_set] at la lb
      obtain ⟨z, hz, ez⟩ := half_has (op := op) la lb (okT_low ta) (okT_low tb) (nW_lowI _) (nW_lowI _)
      have := low_has' hz
      rw [ez] at this
      exact this
end Go.Proofs.YtchjneodjaakdaaGreat.Ex
end
section
namespace Go.Proofs.YtchjneodjaakdaaGreat
open Go.ChangeShapes Go.WideShapes Go.RowKit

inductive Kv where
  | i (k : IntKind)
  | b
  | s
  | l
def Kv.ok (W : World) : Kv → Value → Prop
  | .i k, v => ∃ n, v = .int k n ∧ (Lit.int k n).wf = true
  | .b, v => ∃ x, v = .bool x
  | .s, v => ∃ x : ByteArray, v = .string x ∧ (x.size : Int) ≤ IntKind.i64.max
  | .l, v => v = .slice none 0 0 ∨ ∃ b off len cap, v = .slice (some ⟨b, off, none⟩) len cap ∧ len ≤ cap ∧ (cap : Int) ≤ IntKind.i64.max ∧ b < W.heap.size
def okV (W : World) : List Kv → List Value → Prop
  | [], [] => True
  | k :: ks, v :: vs => k.ok W v ∧ okV W ks vs
  | _, _ => False
theorem okV.nil {W : World} {cs : List Value} (h : okV W [] cs) : cs = [] := by cases cs with | nil => rfl | cons _ _ => exact h.elim
theorem okV.cons {W : World} {k : Kv} {ks : List Kv} {cs : List Value} (h : okV W (k :: ks) cs) : ∃ v vs, cs = v :: vs ∧ k.ok W v ∧ okV W ks vs := by
  cases cs with
  | nil => exact h.elim
  | cons v vs => exact ⟨v, vs, rfl, h.1, h.2⟩
theorem okV.of_get {W : World} : ∀ {ks : List Kv} {cs : List Value}, cs.length = ks.length → (∀ (i : Nat) (k : Kv) (v : Value), ks[i]? = some k → cs[i]? = some v → k.ok W v) → okV W ks cs
  | [], [], _, _ => trivial
  | [], _ :: _, h, _ => by simp at h
  | _ :: _, [], h, _ => by simp at h
  | k :: ks, v :: vs, h, hg => ⟨hg 0 k v rfl rfl, okV.of_get (by simpa using h) fun i k' v' h1 h2 => hg (i + 1) k' v' (by simpa using h1) (by simpa using h2)⟩
def kvOf (P : Program) (u : TypeId) : Option Kv :=
  match P.underlying u with
  | some .bool => some .b
  | some (.int k) => some (.i k)
  | some .string => some .s
  | some (.slice _) => some .l
  | _ => none
def kvsL (P : Program) : List TypeId → Option (List Kv)
  | [] => some []
  | t :: ts =>
    match kvOf P t with
    | some k =>
      match kvsL P ts with
      | some ks => some (k :: ks)
      | none => none
    | none => none
def kvsT (P : Program) (t : TypeId) : Option (List Kv) :=
  match P.underlying t with
  | some (.struct _) | some (.array _ _) =>
    match P.cellTypes P.depth t with
    | some ts => if P.cellsOf t = ts.length then kvsL P ts else none
    | none => none
  | _ => none
section
variable {P : Program} {W : World} {base : Nat}
theorem wf_of_has {k : IntKind} {n : Int} (h : k.has n) : (Lit.int k n).wf = true := by
  obtain ⟨h1, h2⟩ := h
  simp [Lit.wf, h1, h2]
theorem kv_cell {u : TypeId} {k : Kv} (h : kvOf P u = some k) {v : Value} (hc : Cell.okWide P W .any base u v) : k.ok W v := by
  unfold kvOf at h
  split at h
  · rename_i hu
    cases h
    simp only [Cell.okWide, hu, Cell.ok] at hc
    cases v <;> first | exact ⟨_, rfl⟩ | exact hc.elim
  · rename_i k' hu
    cases h
    simp only [Cell.okWide, hu, Cell.ok] at hc
    cases v <;> first | exact hc.elim | skip
    rename_i k2 n
    obtain ⟨rfl, h2⟩ := hc
    exact ⟨n, rfl, wf_of_has h2⟩
  · rename_i hu
    cases h
    simp only [Cell.okWide, hu, Cell.ok] at hc
    cases v <;> first | exact hc.elim | exact ⟨_, rfl, hc⟩
  · rename_i e hu
    cases h
    simp only [Cell.okWide, hu, Cell.ok] at hc
    cases v <;> first | exact hc.elim | skip
    rename_i a l c
    cases a with
    | none =>
      left
      split at hc <;> simp_all
    | some a =>
      right
      obtain ⟨b, off, sp⟩ := a
      simp only [World.has] at hc
      obtain ⟨h1, h2, _, rfl, row, cells, hs, _⟩ := hc
      refine ⟨b, off, l, c, rfl, h1, h2, ?_⟩
      unfold World.shape? at hs
      split at hs
      · rename_i hh
        exact (Array.getElem?_eq_some_iff.1 hh).1
      · cases hs
  · cases h
theorem kvsL_get : ∀ {ts : List TypeId} {ks : List Kv}, kvsL P ts = some ks → ks.length = ts.length ∧ ∀ (i : Nat) (u : TypeId) (k : Kv), ts[i]? = some u → ks[i]? = some k → kvOf P u = some k
  | [], ks, h => by simp [kvsL] at h; subst h; exact ⟨rfl, fun i u k h => by simp at h⟩
  | t :: ts, ks, h => by
    simp only [kvsL] at h
    split at h
    · rename_i k hk
      split at h
      · rename_i ks' hks
        cases h
        obtain ⟨h1, h2⟩ := kvsL_get hks
        refine ⟨by simp [h1], fun i u k' hu hk' => ?_⟩
        cases i with
        | zero => simp at hu hk'; subst hu hk'; exact hk
        | succ i => exact h2 i u k' (by simpa using hu) (by simpa using hk')
      · cases h
    · cases h
theorem open_kv {t : TypeId} {ks : List Kv} (h : kvsT P t = some ks) {v : Value} (hv : Value.okWide P W .any base t v) : ∃ cs, v = .agg ⟨cs⟩ ∧ okV W ks cs := by
  unfold kvsT at h
  have key : ∀ {ts : List TypeId}, P.cellTypes P.depth t = some ts → P.cellsOf t = ts.length → kvsL P ts = some ks → (∃ cs, v = .agg cs ∧ cs.size = P.cellsOf t ∧ Row.okWide P W .any base t cs) → ∃ cs, v = .agg ⟨cs⟩ ∧ okV W ks cs := by
    rintro ts h1 h2 h3 ⟨⟨cs⟩, rfl, hn, us, hus, _, hc⟩
    rw [h1] at hus
    cases hus
    obtain ⟨g1, g2⟩ := kvsL_get h3
    refine ⟨cs, rfl, okV.of_get (by rw [g1, ← h2]; simpa using hn) fun i k x hk hx => ?_⟩
    obtain ⟨u, hu, hcu⟩ := hc i x (by simpa using hx)
    have hi : i < ts.length := by rw [← g1]; exact (List.getElem?_eq_some_iff.1 hk).1
    rw [Nat.mod_eq_of_lt hi] at hu
    exact kv_cell (g2 i u k hu hk) hcu
  split at h
  · rename_i hu
    split at h
    · rename_i ts hts
      split at h
      · rename_i hn
        exact key hts hn h (by simpa only [Value.okWide, hu] using hv)
      · cases h
    · cases h
  · rename_i hu
    split at h
    · rename_i ts hts
      split at h
      · rename_i hn
        exact key hts hn h (by simpa only [Value.okWide, hu] using hv)
      · cases h
    · cases h
  · cases h
theorem open_kv1 {t : TypeId} {k : Kv} (h : kvOf P t = some k) {v : Value} (hv : Value.okWide P W .any base t v) : k.ok W v := by
  refine kv_cell h (base := base) ?_
  unfold kvOf at h
  unfold Value.okWide at hv
  split at hv
  · rename_i hu; rw [hu] at h; cases h
  · rename_i hu; rw [hu] at h; cases h
  · exact hv
variable {H : Type} {enc : TypeId × Value → H}
theorem trodAll_stays (hl : laidOutB P = true) {W' : World} {sp' : Nat → Bool} : ∀ {ts : List TypeId} {vs : List Value} {ds : List (DataW H)} {ps : List MemPlace}, (ts.all fun t => P.readableRec t && decide (t < P.types.size)) = true →
    DataW.TrodAll enc P W base (fun _ => true) true ts vs ds ps → (∀ p ∈ ps, W.sameAt W' p) → (∀ p ∈ ps, sp' p.block = true) → DataW.TrodAll enc P W' base sp' true ts vs ds ps
  | [], vs, ds, ps, _, h, _, _ => by
    cases vs with
    | nil => cases ds with
      | nil => exact h
      | cons _ _ => exact h.elim
    | cons _ _ => exact h.elim
  | t :: ts, vs, ds, ps, hr, h, hs, hsp => by
    obtain ⟨v, vs', d, ds', p, q, rfl, rfl, rfl, h1, h2⟩ := trodAll_cons h
    simp only [List.all_cons, Bool.and_eq_true, decide_eq_true_eq] at hr
    exact ⟨p, q, Go.WideElems.Trod_stays hl hr.1.1 hr.1.2 h1 (fun x hx => hs x (List.mem_append_left _ hx)) (fun x hx => hsp x (List.mem_append_left _ hx)),
      trodAll_stays hl hr.2 h2 (fun x hx => hs x (List.mem_append_right _ hx)) (fun x hx => hsp x (List.mem_append_right _ hx)), rfl⟩
theorem sameAt_of_gr {W W' : World} (h : Ex.Gr W W') {p : MemPlace} (hp : p.block < W.heap.size) : W.sameAt W' p := by
  cases p with
  | cell b off => exact Ex.gr_cell h (a := ⟨b, off, none⟩) hp
  | map b => exact h.2.1 b hp
end
end Go.Proofs.YtchjneodjaakdaaGreat
end
section
namespace Go.Proofs.YtchjneodjaakdaaGreat.Ex
open Go Go.RowKit
open Go.Proofs.YtchjneodjaakdaaGreat.Sc (firstV firstOk lastV lastOk)
open Go.Proofs.YtchjneodjaakdaaGreat.Spn (Sp SHas umin N_umin two_forms)
def rT (t : TI) (v : Int) : Bool := hasTB (tB t).1 (tB t).2 (B v)
def rS (s : SI) (v : Int) : Bool := hasB (sB s) (B v)
def hk_r15 : Hook := fun f args _ =>
  if Nat.beq f 50 then
    match args with
    | [.int .u64 a, .int .u64 b, .int .u64 c] => some (.bool (rT ⟨a, b⟩ c), [(b2i (tW ⟨a, b⟩ && uB c), 1)])
    | _ => none
  else none
theorem hk_r15_ok : HookOk Tryz.prog hk_r15 := by
  intro f args h v cs hv hc wb k s w H
  unfold hk_r15 at hv
  split at hv
  · rename_i hf
    obtain rfl := Nat.eq_of_beq_eq_true hf
    split at hv
    · rename_i a b c
      cases hv
      have hw := pair1 hc rfl
      simp only [Bool.and_eq_true] at hw
      obtain ⟨x, y, rfl, rfl⟩ := tW_eq2 hw.1
      obtain ⟨z, rfl⟩ := uB_eq hw.2
      simp only [rT, tB, B, ofInt_N]
      exact (refHas_any x y z w).mono fun e w' h => ⟨h.1, Gr.of_grown h.2⟩
    · cases hv
  · cases hv
def hk_r16 : Hook := fun f args _ =>
  if Nat.beq f 51 then
    match args with
    | [.int .u64 a, .int .u64 b, .int .i64 c, .int .i64 d, .int .u64 v] => some (.bool (rS ⟨a, b, c, d⟩ v), [(b2i (sW ⟨a, b, c, d⟩ && uB v), 1)])
    | _ => none
  else none
theorem hk_r16_ok : HookOk Tryz.prog hk_r16 := by
  intro f args h v cs hv hc wb k s w H
  unfold hk_r16 at hv
  split at hv
  · rename_i hf
    obtain rfl := Nat.eq_of_beq_eq_true hf
    split at hv
    · rename_i a b c d v
      cases hv
      have hw := pair1 hc rfl
      simp only [Bool.and_eq_true] at hw
      obtain ⟨x, y, z, u, rfl, rfl, rfl, rfl⟩ := sW_eq4 hw.1
      obtain ⟨t, rfl⟩ := uB_eq hw.2
      simp only [rS, sB, B, ofInt_N, ofInt_Z64]
      exact (ref_has x y z u t w).mono fun e w' h => ⟨h.1, Gr.of_grown h.2⟩
    · cases hv
  · cases hv
def hk_r05 : Hook := fun f args _ =>
  if Nat.beq f 11 then
    match args with
    | [.int .u8 x, .bool wide, .int .u64 a, .int .u64 b] => some (.int .u64 (aluI x wide a b), [(b2i (uB a && uB b), 1)])
    | _ => none
  else none
theorem hk_r05_ok : HookOk Tryz.prog hk_r05 := by
  intro f args h v cs hv hc wb k s w H
  unfold hk_r05 at hv
  split at hv
  · rename_i hf
    obtain rfl := Nat.eq_of_beq_eq_true hf
    split at hv
    · rename_i x wide a b
      cases hv
      have hw := pair1 hc rfl
      simp only [Bool.and_eq_true] at hw
      obtain ⟨va, rfl⟩ := uB_eq hw.1
      obtain ⟨vb, rfl⟩ := uB_eq hw.2
      simp only [aluI, B, ofInt_N]
      exact (refDo_any x wide va vb w).mono fun e w' h => ⟨h.1, h.2 ▸ Gr.refl _⟩
    · cases hv
  · cases hv
def hkR : Hook := orHook hk_r15 (orHook hk_r16 (orHook hk_r05 (hkBase)))
theorem hkR_ok : HookOk Tryz.prog hkR := orHook_ok hk_r15_ok (orHook_ok hk_r16_ok (orHook_ok hk_r05_ok (hkBase_ok)))
def rHasOrc (b : Bool) : Orc := fun f t _ => if Nat.beq f 22 && Nat.beq t 15 then some (.bool b) else none
set_option maxHeartbeats 0 in
set_option maxRecDepth 1000000 in
theorem rhas_0_r (a : NI) (v : Int) (he : ([(b2i (tW a.t && uB v), 1), (b2i (rT a.t v), 0)] : Cs).map (·.1) = ([(b2i (tW a.t && uB v), 1), (b2i (rT a.t v), 0)] : Cs).map (·.2)) (w : World) : Calls Tryz.prog 9 #[VN a, .int .u64 v] w fun e w' => e = .returned (.bool false) ∧ Gr w w' :=
  rk hkR_ok (rHasOrc false) (cs := ([(b2i (tW a.t && uB v), 1), (b2i (rT a.t v), 0)] : Cs)) rfl (by kernel_rfl) (by kernel_rfl) he w
theorem rhas_0 (a : NI) (v : Int) (h1 : (tW a.t && uB v) = true) (k : rT a.t v = false) (w : World) : Calls Tryz.prog 9 #[VN a, .int .u64 v] w fun e w' => e = .returned (.bool false) ∧ Gr w w' :=
  rhas_0_r a v (by rw [h1, k]; rfl) w
set_option maxHeartbeats 0 in
set_option maxRecDepth 1000000 in
theorem rhas_1_r (a : NI) (v : Int) (he : ([(b2i (tW a.t && uB v), 1), (b2i (rT a.t v), 1), (b2i (sW a.s && uB v), 1)] : Cs).map (·.1) = ([(b2i (tW a.t && uB v), 1), (b2i (rT a.t v), 1), (b2i (sW a.s && uB v), 1)] : Cs).map (·.2)) (w : World) : Calls Tryz.prog 9 #[VN a, .int .u64 v] w fun e w' => e = .returned (.bool (rS a.s v)) ∧ Gr w w' :=
  rk hkR_ok (rHasOrc true) (cs := ([(b2i (tW a.t && uB v), 1), (b2i (rT a.t v), 1), (b2i (sW a.s && uB v), 1)] : Cs)) rfl (by kernel_rfl) (by kernel_rfl) he w
theorem rhas_1 (a : NI) (v : Int) (h1 : (tW a.t && uB v) = true) (h2 : (sW a.s && uB v) = true) (k : rT a.t v = true) (w : World) : Calls Tryz.prog 9 #[VN a, .int .u64 v] w fun e w' => e = .returned (.bool (rS a.s v)) ∧ Gr w w' :=
  rhas_1_r a v (by rw [h1, k, h2]; rfl) w
def rHasI (a : NI) (v : Int) : Bool := rT a.t v && rS a.s v
theorem c_rhas (a : NI) (v : Int) (hw : (nW a && uB v) = true) (w : World) : Calls Tryz.prog 9 #[VN a, .int .u64 v] w fun e w' => e = .returned (.bool (rHasI a v)) ∧ Gr w w' := by
  unfold nW at hw
  simp only [Bool.and_eq_true] at hw
  have h1 : (tW a.t && uB v) = true := by rw [hw.1.1, hw.2]; rfl
  have h2 : (sW a.s && uB v) = true := by rw [hw.1.2, hw.2]; rfl
  cases k : rT a.t v with
  | true => exact ret_eq (by simp only [rHasI, k]; rfl) (rhas_1 a v h1 h2 k w)
  | false => exact ret_eq (by simp only [rHasI, k]; rfl) (rhas_0 a v h1 k w)
theorem rHas_iff (a : NI) (v : BitVec 64) : rHasI a (N v) = true ↔ HasN a v := by
  unfold rHasI rT rS HasN
  rw [Bool.and_eq_true, BN, hasTB_iff, hasB_iff]
theorem c_rhasT (a : NI) (v : Int) (hw : (nW a && (uB v && rHasI a v)) = true) (w : World) : Calls Tryz.prog 9 #[VN a, .int .u64 v] w fun e w' => e = .returned (.bool true) ∧ Gr w w' := by
  simp only [Bool.and_eq_true] at hw
  exact ret_eq (by rw [hw.2.2]) (c_rhas a v (by rw [hw.1, hw.2.1]; rfl) w)
def hk_rhas : Hook := fun f args _ =>
  if Nat.beq f 9 then
    match args with
    | [.agg ⟨[.int .u64 a0, .int .u64 a1, .int .u64 a2, .int .u64 a3, .int .i64 a4, .int .i64 a5]⟩, .int .u64 b] => some (.bool (rHasI (⟨⟨a0, a1⟩, ⟨a2, a3, a4, a5⟩⟩ : NI) b), [(b2i (nW (⟨⟨a0, a1⟩, ⟨a2, a3, a4, a5⟩⟩ : NI) && uB b), 1)])
    | _ => none
  else none
theorem hk_rhas_ok : HookOk Tryz.prog hk_rhas := by
  intro f args h v cs hv hc wb k s w H
  unfold hk_rhas at hv
  split at hv
  · rename_i hf
    obtain rfl := Nat.eq_of_beq_eq_true hf
    split at hv
    · rename_i a0 a1 a2 a3 a4 a5 b
      cases hv
      have hw := pair1 hc rfl
      exact c_rhas (⟨⟨a0, a1⟩, ⟨a2, a3, a4, a5⟩⟩ : NI) b hw w
    · cases hv
  · cases hv
def hk_rhasT : Hook := fun f args _ =>
  if Nat.beq f 9 then
    match args with
    | [.agg ⟨[.int .u64 a0, .int .u64 a1, .int .u64 a2, .int .u64 a3, .int .i64 a4, .int .i64 a5]⟩, .int .u64 b] => some (.bool true, [(b2i (nW (⟨⟨a0, a1⟩, ⟨a2, a3, a4, a5⟩⟩ : NI) && (uB b && rHasI (⟨⟨a0, a1⟩, ⟨a2, a3, a4, a5⟩⟩ : NI) b)), 1)])
    | _ => none
  else none
theorem hk_rhasT_ok : HookOk Tryz.prog hk_rhasT := by
  intro f args h v cs hv hc wb k s w H
  unfold hk_rhasT at hv
  split at hv
  · rename_i hf
    obtain rfl := Nat.eq_of_beq_eq_true hf
    split at hv
    · rename_i a0 a1 a2 a3 a4 a5 b
      cases hv
      have hw := pair1 hc rfl
      exact c_rhasT (⟨⟨a0, a1⟩, ⟨a2, a3, a4, a5⟩⟩ : NI) b hw w
    · cases hv
  · cases hv
def min2 (x y : Int) : Int := if y < x then y else x
def sub64 (x y : Int) : Int := IntKind.u64.wrap (x - y)
def madeI (v : Int) (by0 by1 by2 by3 by4 : Int) : NI :=
  ⟨⟨IntKind.u64.wrap (BitVec.ofInt IntKind.u64.bits v &&& ~~~BitVec.ofInt IntKind.u64.bits by0).toNat, by0⟩,
   ⟨sub64 v (min2 v by1), IntKind.u64.wrap (v + min2 (IntKind.u64.wrap (BitVec.ofInt IntKind.u64.bits 18446744073709551615 ^^^ BitVec.ofInt IntKind.u64.bits v).toNat) by2),
    IntKind.i64.wrap (IntKind.i64.wrap v - IntKind.i64.wrap (min2 (min2 (sub64 v 9223372036854775808) by3) 9223372036854775807)),
    IntKind.i64.wrap (IntKind.i64.wrap v + IntKind.i64.wrap (min2 (min2 (sub64 9223372036854775807 v) by4) 9223372036854775807))⟩⟩
set_option maxHeartbeats 0 in
set_option maxRecDepth 1000000 in
theorem c_made_r (v b0 b1 b2 b3 b4 : Int) (he : ([] : Cs).map (·.1) = ([] : Cs).map (·.2)) (w : World) : Calls Tryz.prog 8 #[.int .u64 v, .agg ⟨[.int .u64 b0, .int .u64 b1, .int .u64 b2, .int .u64 b3, .int .u64 b4]⟩] w fun e w' => e = .returned (VN (madeI v b0 b1 b2 b3 b4)) ∧ Gr w w' :=
  rk hkBase_ok noOrc (cs := ([] : Cs)) rfl (by kernel_rfl) (by kernel_rfl) he w
theorem c_made (v b0 b1 b2 b3 b4 : Int) (w : World) : Calls Tryz.prog 8 #[.int .u64 v, .agg ⟨[.int .u64 b0, .int .u64 b1, .int .u64 b2, .int .u64 b3, .int .u64 b4]⟩] w fun e w' => e = .returned (VN (madeI v b0 b1 b2 b3 b4)) ∧ Gr w w' :=
  c_made_r v b0 b1 b2 b3 b4 (by rfl) w
def hk_made : Hook := fun f args _ =>
  if Nat.beq f 8 then
    match args with
    | [.int .u64 v, .agg ⟨[.int .u64 b0, .int .u64 b1, .int .u64 b2, .int .u64 b3, .int .u64 b4]⟩] => some (VN (madeI v b0 b1 b2 b3 b4), [])
    | _ => none
  else none
theorem hk_made_ok : HookOk Tryz.prog hk_made := by
  intro f args h v cs hv hc wb k s w H
  unfold hk_made at hv
  split at hv
  · rename_i hf
    obtain rfl := Nat.eq_of_beq_eq_true hf
    split at hv
    · rename_i v b0 b1 b2 b3 b4
      cases hv
      exact c_made v b0 b1 b2 b3 b4 w
    · cases hv
  · cases hv
theorem nW_made {v b0 b1 b2 b3 b4 : Int} (h : uB b0 = true) : nW (madeI v b0 b1 b2 b3 b4) = true := by
  unfold nW tW sW madeI sub64
  simp only [u64_uB, i64_zB, h, Bool.and_self]
theorem min2_N (x y : BitVec 64) : min2 (N x) (N y) = N (umin x y) := by
  unfold min2 umin
  split <;> rfl
theorem made_has' (v b0 b1 b2 b3 b4 : BitVec 64) : HasN (madeI (N v) (N b0) (N b1) (N b2) (N b3) (N b4)) v ∧ OkN (madeI (N v) (N b0) (N b1) (N b2) (N b3) (N b4)) := by
  have e0 : tB (madeI (N v) (N b0) (N b1) (N b2) (N b3) (N b4)).t = (v &&& ~~~b0, b0) := by
    show (B (IntKind.u64.wrap ((B (N v) &&& ~~~B (N b0)).toNat : Int)), B (N b0)) = _
    rw [B_u64, BN, BN]
    show (BitVec.ofInt 64 ((v &&& ~~~b0).toNat : Int), b0) = _
    rw [BitVec.ofInt_natCast, BitVec.ofNat_toNat, BitVec.setWidth_eq]
  have e1 : sB (madeI (N v) (N b0) (N b1) (N b2) (N b3) (N b4)).s = madeS v b1 b2 b3 b4 := by
    unfold madeS downW upW
    show (⟨B (IntKind.u64.wrap (N v - min2 (N v) (N b1))), B (IntKind.u64.wrap (N v + min2 (IntKind.u64.wrap ((B 18446744073709551615 ^^^ B (N v)).toNat : Int)) (N b2))),
      B (IntKind.i64.wrap (IntKind.i64.wrap (N v) - IntKind.i64.wrap (min2 (min2 (IntKind.u64.wrap (N v - 9223372036854775808)) (N b3)) 9223372036854775807))),
      B (IntKind.i64.wrap (IntKind.i64.wrap (N v) + IntKind.i64.wrap (min2 (min2 (IntKind.u64.wrap (9223372036854775807 - N v)) (N b4)) 9223372036854775807)))⟩ : Sp) = _
    have x1 : IntKind.u64.wrap ((B 18446744073709551615 ^^^ B (N v)).toNat : Int) = N (~~~v) := by
      rw [BN v, u64_wrap, BitVec.ofInt_natCast, BitVec.ofNat_toNat, BitVec.setWidth_eq]
      rw [show B 18446744073709551615 = BitVec.allOnes 64 from by decide, BitVec.allOnes_xor]
    have x2 : IntKind.u64.wrap (N v - 9223372036854775808) = N (v - 9223372036854775808#64) := by
      rw [u64_wrap, ofInt_sub', ofInt_N]; rfl
    have x3 : IntKind.u64.wrap (9223372036854775807 - N v) = N (BitVec.ofInt 64 (9223372036854775807 - N v)) := u64_wrap _
    have x4 : (9223372036854775807 : Int) = N (9223372036854775807#64) := by decide
    rw [x1, x2, x3, B_u64, B_u64, B_i64, B_i64]
    have y1 : ∀ z : BitVec 64, min2 (N z) 9223372036854775807 = N (umin z 9223372036854775807#64) := fun z => by
      have h := min2_N z (9223372036854775807#64)
      rwa [← x4] at h
    rw [min2_N, min2_N, min2_N, min2_N, y1, y1]
    unfold B
    simp only [BitVec.ofInt_add, ofInt_sub', ofInt_N, i64_wrap_N, ofInt_Z64]
  refine ⟨⟨?_, ?_⟩, ?_⟩
  · rw [e0]; exact (rfl : v &&& ~~~b0 = v &&& ~~~b0)
  · rw [e1]; exact made_has v b1 b2 b3 b4
  · unfold OkN; rw [e0]; exact ok_made v b0
theorem wf_N {n : Int} (h : (Lit.int .u64 n).wf = true) : ∃ y : BitVec 64, n = N y := by
  have h1 := bounds_u64 h
  exact ⟨BitVec.ofInt 64 n, (N_ofInt n h1.1 (by have := h1.2; omega)).symm⟩
theorem wf_Z {n : Int} (h : (Lit.int .i64 n).wf = true) : ∃ y : BitVec 64, n = Z y := by
  have h1 := bounds_i64 h
  exact zB_eq (decide_eq_true ⟨h1.1, h1.2⟩)
def hkLT : Hook := orHook hk_made (orHook hk_rhasT (orHook hk_r05 (orHook hk_Do (hk9))))
theorem hkLT_ok : HookOk Tryz.prog hkLT := orHook_ok hk_made_ok (orHook_ok hk_rhasT_ok (orHook_ok hk_r05_ok (orHook_ok hk_Do_ok (hk9_ok))))
def hkL : Hook := orHook hk_made (orHook hk_rhas (orHook hk_r05 (orHook hk_Do (orHook hk_in (orHook hk_has (hk9))))))
theorem hkL_ok : HookOk Tryz.prog hkL := orHook_ok hk_made_ok (orHook_ok hk_rhas_ok (orHook_ok hk_r05_ok (orHook_ok hk_Do_ok (orHook_ok hk_in_ok (orHook_ok hk_has_ok (hk9_ok))))))
set_option maxHeartbeats 0 in
set_option maxRecDepth 1000000 in
theorem sums_any (w : World) : Calls Tryz.prog 12 #[] w fun e w' => e = .returned (.bool true) ∧ Gr w w' :=
  reckonG_ok noNG hk10_ok 100000 300 [] rfl rfl (by kernel_rfl) w (Laid.nil w)
def hk_sums : Hook := memoHook [] 12 [([], .bool true)]
theorem hk_sums_ok : HookOk Tryz.prog hk_sums := memoHook_ok rfl ⟨fun w _ => sums_any w, trivial⟩
end Go.Proofs.YtchjneodjaakdaaGreat.Ex
end
section
namespace Go.Proofs.YtchjneodjaakdaaGreat
open Go.RowKit

theorem run_insert_new {P : Program} {T K E : TypeId} {q : IntKind} (hT : P.underlying T = some (.map K E)) (hK : P.underlying K = some (.int q)) (w : World) (es : Array MapEntry) (c : Nat) (x : Int) (v : Value)
    (hn : Instr.findNow (.int q) (.int q x) es.toList 0 = some none) :
    (Instr.mapUpdate T (.map (some w.heap.size)) (.int q x) v).run P (w.alloc (.map es c)) = .ok () (w.alloc (.map (es.push ⟨.int q x, v, c⟩) (c + 1))) := by
  have hb := (MapKept.heap_alloc w (.map es c)).1
  simp [Instr.mapUpdate, run_underlying hT, MapKept.run_getObj_map hb, MapKept.run_checkKey hK (show MapKept.IsKey (.int q) (.int q x) from rfl), MapKept.run_findKey hK hn, MapKept.run_setObj_map _ hb, Result.andThen]
  have hp : ∀ (h : Array Obj) (x y : Obj), (h.push x).setIfInBounds h.size y = h.push y := by
    intro h x y
    apply Array.toList_inj.1
    simp
  show ({ w with heap := (w.heap.push (.map es c)).setIfInBounds w.heap.size (.map (es.push ⟨.int q x, v, c⟩) (c + 1)) } : World) = _
  rw [hp]
  rfl

theorem run_lookup_lit {P : Program} {T K E : TypeId} {q : IntKind} (hT : P.underlying T = some (.map K E)) (hK : P.underlying K = some (.int q)) (w : World) (b : Nat) (es : Array MapEntry) (c : Nat) (x : Int) (i : Nat) (v : Value)
    (hb : w.heap[b]? = some (.map es c)) (hn : Instr.findNow (.int q) (.int q x) es.toList 0 = some (some (i, v))) :
    (Instr.lookup T (.map (some b)) (.int q x) false).run P w = .ok v w := by
  simp [Instr.lookup, run_underlying hT, MapKept.run_getObj_map hb, MapKept.run_checkKey hK (show MapKept.IsKey (.int q) (.int q x) from rfl), MapKept.run_findKey hK hn, Result.andThen]
theorem run_lookup_none {P : Program} {T K E : TypeId} {q : IntKind} (hT : P.underlying T = some (.map K E)) (hK : P.underlying K = some (.int q)) (w : World) (b : Nat) (es : Array MapEntry) (c : Nat) (x : Int) (z : Value)
    (hb : w.heap[b]? = some (.map es c)) (hn : Instr.findNow (.int q) (.int q x) es.toList 0 = some none) (hz : (zeroValue E).run P w = .ok z w) :
    (Instr.lookup T (.map (some b)) (.int q x) false).run P w = .ok z w := by
  simp [Instr.lookup, run_underlying hT, MapKept.run_getObj_map hb, MapKept.run_checkKey hK (show MapKept.IsKey (.int q) (.int q x) from rfl), MapKept.run_findKey hK hn, hz, Result.andThen]
end Go.Proofs.YtchjneodjaakdaaGreat
end
section
namespace Go.Proofs.YtchjneodjaakdaaGreat
set_option maxRecDepth 20000
open Go.RowKit

/-- The table's first k entries. -/
def tabE (k : Nat) : Array MapEntry := ([⟨.int .u8 0, .agg #[.bool true, .bool true, .bool true, .bool false, .bool false], 0⟩, ⟨.int .u8 16, .agg #[.bool false, .bool true, .bool false, .bool false, .bool false], 1⟩, ⟨.int .u8 80, .agg #[.bool true, .bool false, .bool true, .bool false, .bool false], 2⟩, ⟨.int .u8 32, .agg #[.bool false, .bool false, .bool true, .bool false, .bool false], 3⟩, ⟨.int .u8 48, .agg #[.bool false, .bool true, .bool true, .bool false, .bool false], 4⟩, ⟨.int .u8 160, .agg #[.bool true, .bool false, .bool false, .bool false, .bool false], 5⟩, ⟨.int .u8 176, .agg #[.bool true, .bool true, .bool false, .bool false, .bool false], 6⟩, ⟨.int .u8 96, .agg #[.bool false, .bool false, .bool true, .bool false, .bool true], 7⟩, ⟨.int .u8 112, .agg #[.bool false, .bool true, .bool true, .bool false, .bool true], 8⟩, ⟨.int .u8 192, .agg #[.bool true, .bool false, .bool false, .bool false, .bool true], 9⟩, ⟨.int .u8 208, .agg #[.bool true, .bool true, .bool false, .bool false, .bool true], 10⟩, ⟨.int .u8 64, .agg #[.bool false, .bool false, .bool false, .bool true, .bool false], 11⟩].take k).toArray

attribute [local go_sem] u64_wrap u8_wrap

set_option maxRecDepth 100000 in
set_option maxHeartbeats 1000000 in
theorem table_any (w : World) : Calls Tryz.prog 74 #[] w fun e w' => e = .returned (.map (some w.heap.size)) ∧ w' = w.alloc (.map (tabE 12) 12) := by
  have hmm := @run_makeMap Tryz.prog
  have ez : (#[] : Array MapEntry) = tabE 0 := rfl
  have f0 := run_insert_new (P := Tryz.prog) Tryz.underlying97 Tryz.underlying5 w (tabE 0) 0 0 (.agg #[.bool true, .bool true, .bool true, .bool false, .bool false]) rfl
  rw [show (tabE 0).push ⟨.int .u8 0, .agg #[.bool true, .bool true, .bool true, .bool false, .bool false], 0⟩ = tabE 1 from rfl] at f0
  have f1 := run_insert_new (P := Tryz.prog) Tryz.underlying97 Tryz.underlying5 w (tabE 1) 1 16 (.agg #[.bool false, .bool true, .bool false, .bool false, .bool false]) rfl
  rw [show (tabE 1).push ⟨.int .u8 16, .agg #[.bool false, .bool true, .bool false, .bool false, .bool false], 1⟩ = tabE 2 from rfl] at f1
  have f2 := run_insert_new (P := Tryz.prog) Tryz.underlying97 Tryz.underlying5 w (tabE 2) 2 80 (.agg #[.bool true, .bool false, .bool true, .bool false, .bool false]) rfl
  rw [show (tabE 2).push ⟨.int .u8 80, .agg #[.bool true, .bool false, .bool true, .bool false, .bool false], 2⟩ = tabE 3 from rfl] at f2
  have f3 := run_insert_new (P := Tryz.prog) Tryz.underlying97 Tryz.underlying5 w (tabE 3) 3 32 (.agg #[.bool false, .bool false, .bool true, .bool false, .bool false]) rfl
  rw [show (tabE 3).push ⟨.int .u8 32, .agg #[.bool false, .bool false, .bool true, .bool false, .bool false], 3⟩ = tabE 4 from rfl] at f3
  have f4 := run_insert_new (P := Tryz.prog) Tryz.underlying97 Tryz.underlying5 w (tabE 4) 4 48 (.agg #[.bool false, .bool true, .bool true, .bool false, .bool false]) rfl
  rw [show (tabE 4).push ⟨.int .u8 48, .agg #[.bool false, .bool true, .bool true, .bool false, .bool false], 4⟩ = tabE 5 from rfl] at f4
  have f5 := run_insert_new (P := Tryz.prog) Tryz.underlying97 Tryz.underlying5 w (tabE 5) 5 160 (.agg #[.bool true, .bool false, .bool false, .bool false, .bool false]) rfl
  rw [show (tabE 5).push ⟨.int .u8 160, .agg #[.bool true, .bool false, .bool false, .bool false, .bool false], 5⟩ = tabE 6 from rfl] at f5
  have f6 := run_insert_new (P := Tryz.prog) Tryz.underlying97 Tryz.underlying5 w (tabE 6) 6 176 (.agg #[.bool true, .bool true, .bool false, .bool false, .bool false]) rfl
  rw [show (tabE 6).push ⟨.int .u8 176, .agg #[.bool true, .bool true, .bool false, .bool false, .bool false], 6⟩ = tabE 7 from rfl] at f6
  have f7 := run_insert_new (P := Tryz.prog) Tryz.underlying97 Tryz.underlying5 w (tabE 7) 7 96 (.agg #[.bool false, .bool false, .bool true, .bool false, .bool true]) rfl
  rw [show (tabE 7).push ⟨.int .u8 96, .agg #[.bool false, .bool false, .bool true, .bool false, .bool true], 7⟩ = tabE 8 from rfl] at f7
  have f8 := run_insert_new (P := Tryz.prog) Tryz.underlying97 Tryz.underlying5 w (tabE 8) 8 112 (.agg #[.bool false, .bool true, .bool true, .bool false, .bool true]) rfl
  rw [show (tabE 8).push ⟨.int .u8 112, .agg #[.bool false, .bool true, .bool true, .bool false, .bool true], 8⟩ = tabE 9 from rfl] at f8
  have f9 := run_insert_new (P := Tryz.prog) Tryz.underlying97 Tryz.underlying5 w (tabE 9) 9 192 (.agg #[.bool true, .bool false, .bool false, .bool false, .bool true]) rfl
  rw [show (tabE 9).push ⟨.int .u8 192, .agg #[.bool true, .bool false, .bool false, .bool false, .bool true], 9⟩ = tabE 10 from rfl] at f9
  have f10 := run_insert_new (P := Tryz.prog) Tryz.underlying97 Tryz.underlying5 w (tabE 10) 10 208 (.agg #[.bool true, .bool true, .bool false, .bool false, .bool true]) rfl
  rw [show (tabE 10).push ⟨.int .u8 208, .agg #[.bool true, .bool true, .bool false, .bool false, .bool true], 10⟩ = tabE 11 from rfl] at f10
  have f11 := run_insert_new (P := Tryz.prog) Tryz.underlying97 Tryz.underlying5 w (tabE 11) 11 64 (.agg #[.bool false, .bool false, .bool false, .bool true, .bool false]) rfl
  rw [show (tabE 11).push ⟨.int .u8 64, .agg #[.bool false, .bool false, .bool false, .bool true, .bool false], 11⟩ = tabE 12 from rfl] at f11
  go_enter Tryz.func74, Tryz.ntmps74
  go_wp2
  go_ret
  exact ⟨rfl, rfl⟩
end Go.Proofs.YtchjneodjaakdaaGreat
end
section
namespace Go.Proofs.YtchjneodjaakdaaGreat
set_option maxRecDepth 20000
open Go.RowKit

attribute [local go_sem] u64_wrap u8_wrap wrap64_N ofInt_N u64_and

def cmpI (x y : Int) : Int := if x < y then -1 else if y < x then 1 else 0

set_option maxHeartbeats 400000 in
theorem cmp_u64 (x y : Int) (w : World) : Calls Tryz.prog 75 #[.int .u64 x, .int .u64 y] w fun e w' => e = .returned (.int .i64 (cmpI x y)) ∧ w = w' := by
  have n1 : (x != x) = false := by simp
  have n2 : (y != y) = false := by simp
  unfold cmpI
  by_cases h : x < y
  · rw [if_pos h]
    go_enter Tryz.func75, Tryz.ntmps75
    go_wp2
    go_ret
    exact ⟨rfl, rfl⟩
  · rw [if_neg h]
    by_cases h2 : y < x
    · rw [if_pos h2]
      go_enter Tryz.func75, Tryz.ntmps75
      go_wp2
      go_ret
      exact ⟨rfl, rfl⟩
    · rw [if_neg h2]
      go_enter Tryz.func75, Tryz.ntmps75
      go_wp2
      go_ret
      exact ⟨rfl, rfl⟩

set_option maxHeartbeats 400000 in
theorem cmp_i64 (x y : Int) (w : World) : Calls Tryz.prog 76 #[.int .i64 x, .int .i64 y] w fun e w' => e = .returned (.int .i64 (cmpI x y)) ∧ w = w' := by
  have n1 : (x != x) = false := by simp
  have n2 : (y != y) = false := by simp
  unfold cmpI
  by_cases h : x < y
  · rw [if_pos h]
    go_enter Tryz.func76, Tryz.ntmps76
    go_wp2
    go_ret
    exact ⟨rfl, rfl⟩
  · rw [if_neg h]
    by_cases h2 : y < x
    · rw [if_pos h2]
      go_enter Tryz.func76, Tryz.ntmps76
      go_wp2
      go_ret
      exact ⟨rfl, rfl⟩
    · rw [if_neg h2]
      go_enter Tryz.func76, Tryz.ntmps76
      go_wp2
      go_ret
      exact ⟨rfl, rfl⟩

/-- The numbers that a condition asks of: the lowest bits. -/
def bitsI (wide : Bool) : Int := if wide then 64 else 32
/-- Whether a condition holds; x: which one; u: how two numbers lie to each other; g: how they do with their sign; t: whether a bit is set in both. -/
def condO (x u g : Int) (t : Bool) : Bool :=
  if x = 0 then true else if x = 16 then decide (u = 0) else if x = 80 then !decide (u = 0) else if x = 32 then decide (0 < u) else if x = 48 then decide (0 ≤ u)
  else if x = 160 then decide (u < 0) else if x = 176 then decide (u ≤ 0) else if x = 96 then decide (0 < g) else if x = 112 then decide (0 ≤ g)
  else if x = 192 then decide (g < 0) else if x = 208 then decide (g ≤ 0) else if x = 64 then t else false
def uO (wide : Bool) (a b : BitVec 64) : Int := cmpI (N (lowS a (bitsI wide))) (N (lowS b (bitsI wide)))
def gO (wide : Bool) (a b : BitVec 64) : Int := cmpI (Z (signS (lowS a (bitsI wide)) (bitsI wide))) (Z (signS (lowS b (bitsI wide)) (bitsI wide)))
def tO (wide : Bool) (a b : BitVec 64) : Bool := !(lowS a (bitsI wide) &&& lowS b (bitsI wide) == 0#64)
def condS (x : Int) (wide : Bool) (a b : BitVec 64) : Bool := condO x (uO wide a b) (gO wide a b) (tO wide a b)

theorem cmpI_three (x y : Int) : cmpI x y = -1 ∨ cmpI x y = 0 ∨ cmpI x y = 1 := by
  unfold cmpI
  split
  · left; rfl
  · split
    · right; right; rfl
    · right; left; rfl
/-- No condition at all. -/
def NoCond (x : Int) : Prop := ¬ x = 0 ∧ ¬ x = 16 ∧ ¬ x = 80 ∧ ¬ x = 32 ∧ ¬ x = 48 ∧ ¬ x = 160 ∧ ¬ x = 176 ∧ ¬ x = 96 ∧ ¬ x = 112 ∧ ¬ x = 192 ∧ ¬ x = 208 ∧ ¬ x = 64
theorem cond_cases (x : Int) : x = 0 ∨ x = 16 ∨ x = 80 ∨ x = 32 ∨ x = 48 ∨ x = 160 ∨ x = 176 ∨ x = 96 ∨ x = 112 ∨ x = 192 ∨ x = 208 ∨ x = 64 ∨ NoCond x := by
  unfold NoCond; omega
theorem condO_none {x : Int} (h : NoCond x) (u g : Int) (t : Bool) : condO x u g t = false := by
  obtain ⟨h1, h2, h3, h4, h5, h6, h7, h8, h9, h10, h11, h12⟩ := h
  unfold condO
  rw [if_neg h1, if_neg h2, if_neg h3, if_neg h4, if_neg h5, if_neg h6, if_neg h7, if_neg h8, if_neg h9, if_neg h10, if_neg h11, if_neg h12]
theorem find_none {x : Int} (h : NoCond x) : Instr.findNow (.int .u8) (.int .u8 x) (tabE 12).toList 0 = some none := by
  obtain ⟨h1, h2, h3, h4, h5, h6, h7, h8, h9, h10, h11, h12⟩ := h
  replace h1 := beq_eq_false_iff_ne.2 h1
  replace h2 := beq_eq_false_iff_ne.2 h2
  replace h3 := beq_eq_false_iff_ne.2 h3
  replace h4 := beq_eq_false_iff_ne.2 h4
  replace h5 := beq_eq_false_iff_ne.2 h5
  replace h6 := beq_eq_false_iff_ne.2 h6
  replace h7 := beq_eq_false_iff_ne.2 h7
  replace h8 := beq_eq_false_iff_ne.2 h8
  replace h9 := beq_eq_false_iff_ne.2 h9
  replace h10 := beq_eq_false_iff_ne.2 h10
  replace h11 := beq_eq_false_iff_ne.2 h11
  replace h12 := beq_eq_false_iff_ne.2 h12
  simp [tabE, Instr.findNow, Instr.sameNow, h1, h2, h3, h4, h5, h6, h7, h8, h9, h10, h11, h12]
theorem N_and_beq (a b : BitVec 64) : (N (a &&& b) == 0) = (a &&& b == 0#64) := by
  have : (0 : Int) = N 0#64 := rfl
  rw [this, N_beq]
end Go.Proofs.YtchjneodjaakdaaGreat
end
section
namespace Go.Proofs.YtchjneodjaakdaaGreat
set_option maxRecDepth 20000
open Go.RowKit

attribute [local go_sem] u64_wrap u8_wrap wrap64_N ofInt_N u64_and

set_option maxRecDepth 100000 in
set_option maxHeartbeats 1000000 in
theorem holds64_0 (a b : BitVec 64) (w : World) : Calls Tryz.prog 32 #[.int .u8 0, .bool true, .int .u64 (N a), .int .u64 (N b)] w fun e w' => e = .returned (.bool (condS 0 true a b)) ∧ Grown w w' := by
  have hl := run_lookup_lit (P := Tryz.prog) Tryz.underlying97 Tryz.underlying5 (w.alloc (.map (tabE 12) 12)) w.heap.size (tabE 12) 12 0 0 (.agg #[.bool true, .bool true, .bool true, .bool false, .bool false]) (MapKept.heap_alloc w _).1 rfl
  have hd : ∀ c, cmpI (N (lowS a 64)) (N (lowS b 64)) = c → condS 0 true a b = condO 0 c (gO true a b) (tO true a b) := by intro c hc; rw [← hc]; rfl
  rcases cmpI_three (N (lowS a 64)) (N (lowS b 64)) with h | h | h
  all_goals
    rw [hd _ h]
    clear hd
    go_enter Tryz.func32, Tryz.ntmps32
    go_wp2_with (first | (go_at_call 74; refine (table_any _).mono ?_; rintro e w' ⟨rfl, rfl⟩) | (go_at_call 54; refine (low_N _ _ _ (by decide) (by decide)).mono ?_; rintro e w' ⟨rfl, rfl⟩) | (go_at_call 77; refine (sign_N _ _ _ (by decide) (by decide)).mono ?_; rintro e w' ⟨rfl, rfl⟩) | (go_at_call 75; refine (cmp_u64 _ _ _).mono ?_; rintro e w' ⟨rfl, rfl⟩) | (go_at_call 76; refine (cmp_i64 _ _ _).mono ?_; rintro e w' ⟨rfl, rfl⟩))
    go_ret
    exact ⟨rfl, ((Grown.refl _).allocMap _ _).alloc _ _⟩

set_option maxRecDepth 100000 in
set_option maxHeartbeats 1000000 in
theorem holds64_16 (a b : BitVec 64) (w : World) : Calls Tryz.prog 32 #[.int .u8 16, .bool true, .int .u64 (N a), .int .u64 (N b)] w fun e w' => e = .returned (.bool (condS 16 true a b)) ∧ Grown w w' := by
  have hl := run_lookup_lit (P := Tryz.prog) Tryz.underlying97 Tryz.underlying5 (w.alloc (.map (tabE 12) 12)) w.heap.size (tabE 12) 12 16 1 (.agg #[.bool false, .bool true, .bool false, .bool false, .bool false]) (MapKept.heap_alloc w _).1 rfl
  have hd : ∀ c, cmpI (N (lowS a 64)) (N (lowS b 64)) = c → condS 16 true a b = condO 16 c (gO true a b) (tO true a b) := by intro c hc; rw [← hc]; rfl
  rcases cmpI_three (N (lowS a 64)) (N (lowS b 64)) with h | h | h
  all_goals
    rw [hd _ h]
    clear hd
    go_enter Tryz.func32, Tryz.ntmps32
    go_wp2_with (first | (go_at_call 74; refine (table_any _).mono ?_; rintro e w' ⟨rfl, rfl⟩) | (go_at_call 54; refine (low_N _ _ _ (by decide) (by decide)).mono ?_; rintro e w' ⟨rfl, rfl⟩) | (go_at_call 77; refine (sign_N _ _ _ (by decide) (by decide)).mono ?_; rintro e w' ⟨rfl, rfl⟩) | (go_at_call 75; refine (cmp_u64 _ _ _).mono ?_; rintro e w' ⟨rfl, rfl⟩) | (go_at_call 76; refine (cmp_i64 _ _ _).mono ?_; rintro e w' ⟨rfl, rfl⟩))
    go_ret
    exact ⟨rfl, ((Grown.refl _).allocMap _ _).alloc _ _⟩

set_option maxRecDepth 100000 in
set_option maxHeartbeats 1000000 in
theorem holds64_80 (a b : BitVec 64) (w : World) : Calls Tryz.prog 32 #[.int .u8 80, .bool true, .int .u64 (N a), .int .u64 (N b)] w fun e w' => e = .returned (.bool (condS 80 true a b)) ∧ Grown w w' := by
  have hl := run_lookup_lit (P := Tryz.prog) Tryz.underlying97 Tryz.underlying5 (w.alloc (.map (tabE 12) 12)) w.heap.size (tabE 12) 12 80 2 (.agg #[.bool true, .bool false, .bool true, .bool false, .bool false]) (MapKept.heap_alloc w _).1 rfl
  have hd : ∀ c, cmpI (N (lowS a 64)) (N (lowS b 64)) = c → condS 80 true a b = condO 80 c (gO true a b) (tO true a b) := by intro c hc; rw [← hc]; rfl
  rcases cmpI_three (N (lowS a 64)) (N (lowS b 64)) with h | h | h
  all_goals
    rw [hd _ h]
    clear hd
    go_enter Tryz.func32, Tryz.ntmps32
    go_wp2_with (first | (go_at_call 74; refine (table_any _).mono ?_; rintro e w' ⟨rfl, rfl⟩) | (go_at_call 54; refine (low_N _ _ _ (by decide) (by decide)).mono ?_; rintro e w' ⟨rfl, rfl⟩) | (go_at_call 77; refine (sign_N _ _ _ (by decide) (by decide)).mono ?_; rintro e w' ⟨rfl, rfl⟩) | (go_at_call 75; refine (cmp_u64 _ _ _).mono ?_; rintro e w' ⟨rfl, rfl⟩) | (go_at_call 76; refine (cmp_i64 _ _ _).mono ?_; rintro e w' ⟨rfl, rfl⟩))
    go_ret
    exact ⟨rfl, ((Grown.refl _).allocMap _ _).alloc _ _⟩

set_option maxRecDepth 100000 in
set_option maxHeartbeats 1000000 in
theorem holds64_32 (a b : BitVec 64) (w : World) : Calls Tryz.prog 32 #[.int .u8 32, .bool true, .int .u64 (N a), .int .u64 (N b)] w fun e w' => e = .returned (.bool (condS 32 true a b)) ∧ Grown w w' := by
  have hl := run_lookup_lit (P := Tryz.prog) Tryz.underlying97 Tryz.underlying5 (w.alloc (.map (tabE 12) 12)) w.heap.size (tabE 12) 12 32 3 (.agg #[.bool false, .bool false, .bool true, .bool false, .bool false]) (MapKept.heap_alloc w _).1 rfl
  have hd : ∀ c, cmpI (N (lowS a 64)) (N (lowS b 64)) = c → condS 32 true a b = condO 32 c (gO true a b) (tO true a b) := by intro c hc; rw [← hc]; rfl
  rcases cmpI_three (N (lowS a 64)) (N (lowS b 64)) with h | h | h
  all_goals
    rw [hd _ h]
    clear hd
    go_enter Tryz.func32, Tryz.ntmps32
    go_wp2_with (first | (go_at_call 74; refine (table_any _).mono ?_; rintro e w' ⟨rfl, rfl⟩) | (go_at_call 54; refine (low_N _ _ _ (by decide) (by decide)).mono ?_; rintro e w' ⟨rfl, rfl⟩) | (go_at_call 77; refine (sign_N _ _ _ (by decide) (by decide)).mono ?_; rintro e w' ⟨rfl, rfl⟩) | (go_at_call 75; refine (cmp_u64 _ _ _).mono ?_; rintro e w' ⟨rfl, rfl⟩) | (go_at_call 76; refine (cmp_i64 _ _ _).mono ?_; rintro e w' ⟨rfl, rfl⟩))
    go_ret
    exact ⟨rfl, ((Grown.refl _).allocMap _ _).alloc _ _⟩

set_option maxRecDepth 100000 in
set_option maxHeartbeats 1000000 in
theorem holds64_48 (a b : BitVec 64) (w : World) : Calls Tryz.prog 32 #[.int .u8 48, .bool true, .int .u64 (N a), .int .u64 (N b)] w fun e w' => e = .returned (.bool (condS 48 true a b)) ∧ Grown w w' := by
  have hl := run_lookup_lit (P := Tryz.prog) Tryz.underlying97 Tryz.underlying5 (w.alloc (.map (tabE 12) 12)) w.heap.size (tabE 12) 12 48 4 (.agg #[.bool false, .bool true, .bool true, .bool false, .bool false]) (MapKept.heap_alloc w _).1 rfl
  have hd : ∀ c, cmpI (N (lowS a 64)) (N (lowS b 64)) = c → condS 48 true a b = condO 48 c (gO true a b) (tO true a b) := by intro c hc; rw [← hc]; rfl
  rcases cmpI_three (N (lowS a 64)) (N (lowS b 64)) with h | h | h
  all_goals
    rw [hd _ h]
    clear hd
    go_enter Tryz.func32, Tryz.ntmps32
    go_wp2_with (first | (go_at_call 74; refine (table_any _).mono ?_; rintro e w' ⟨rfl, rfl⟩) | (go_at_call 54; refine (low_N _ _ _ (by decide) (by decide)).mono ?_; rintro e w' ⟨rfl, rfl⟩) | (go_at_call 77; refine (sign_N _ _ _ (by decide) (by decide)).mono ?_; rintro e w' ⟨rfl, rfl⟩) | (go_at_call 75; refine (cmp_u64 _ _ _).mono ?_; rintro e w' ⟨rfl, rfl⟩) | (go_at_call 76; refine (cmp_i64 _ _ _).mono ?_; rintro e w' ⟨rfl, rfl⟩))
    go_ret
    exact ⟨rfl, ((Grown.refl _).allocMap _ _).alloc _ _⟩

set_option maxRecDepth 100000 in
set_option maxHeartbeats 1000000 in
theorem holds64_160 (a b : BitVec 64) (w : World) : Calls Tryz.prog 32 #[.int .u8 160, .bool true, .int .u64 (N a), .int .u64 (N b)] w fun e w' => e = .returned (.bool (condS 160 true a b)) ∧ Grown w w' := by
  have hl := run_lookup_lit (P := Tryz.prog) Tryz.underlying97 Tryz.underlying5 (w.alloc (.map (tabE 12) 12)) w.heap.size (tabE 12) 12 160 5 (.agg #[.bool true, .bool false, .bool false, .bool false, .bool false]) (MapKept.heap_alloc w _).1 rfl
  have hd : ∀ c, cmpI (N (lowS a 64)) (N (lowS b 64)) = c → condS 160 true a b = condO 160 c (gO true a b) (tO true a b) := by intro c hc; rw [← hc]; rfl
  rcases cmpI_three (N (lowS a 64)) (N (lowS b 64)) with h | h | h
  all_goals
    rw [hd _ h]
    clear hd
    go_enter Tryz.func32, Tryz.ntmps32
    go_wp2_with (first | (go_at_call 74; refine (table_any _).mono ?_; rintro e w' ⟨rfl, rfl⟩) | (go_at_call 54; refine (low_N _ _ _ (by decide) (by decide)).mono ?_; rintro e w' ⟨rfl, rfl⟩) | (go_at_call 77; refine (sign_N _ _ _ (by decide) (by decide)).mono ?_; rintro e w' ⟨rfl, rfl⟩) | (go_at_call 75; refine (cmp_u64 _ _ _).mono ?_; rintro e w' ⟨rfl, rfl⟩) | (go_at_call 76; refine (cmp_i64 _ _ _).mono ?_; rintro e w' ⟨rfl, rfl⟩))
    go_ret
    exact ⟨rfl, ((Grown.refl _).allocMap _ _).alloc _ _⟩

set_option maxRecDepth 100000 in
set_option maxHeartbeats 1000000 in
theorem holds64_176 (a b : BitVec 64) (w : World) : Calls Tryz.prog 32 #[.int .u8 176, .bool true, .int .u64 (N a), .int .u64 (N b)] w fun e w' => e = .returned (.bool (condS 176 true a b)) ∧ Grown w w' := by
  have hl := run_lookup_lit (P := Tryz.prog) Tryz.underlying97 Tryz.underlying5 (w.alloc (.map (tabE 12) 12)) w.heap.size (tabE 12) 12 176 6 (.agg #[.bool true, .bool true, .bool false, .bool false, .bool false]) (MapKept.heap_alloc w _).1 rfl
  have hd : ∀ c, cmpI (N (lowS a 64)) (N (lowS b 64)) = c → condS 176 true a b = condO 176 c (gO true a b) (tO true a b) := by intro c hc; rw [← hc]; rfl
  rcases cmpI_three (N (lowS a 64)) (N (lowS b 64)) with h | h | h
  all_goals
    rw [hd _ h]
    clear hd
    go_enter Tryz.func32, Tryz.ntmps32
    go_wp2_with (first | (go_at_call 74; refine (table_any _).mono ?_; rintro e w' ⟨rfl, rfl⟩) | (go_at_call 54; refine (low_N _ _ _ (by decide) (by decide)).mono ?_; rintro e w' ⟨rfl, rfl⟩) | (go_at_call 77; refine (sign_N _ _ _ (by decide) (by decide)).mono ?_; rintro e w' ⟨rfl, rfl⟩) | (go_at_call 75; refine (cmp_u64 _ _ _).mono ?_; rintro e w' ⟨rfl, rfl⟩) | (go_at_call 76; refine (cmp_i64 _ _ _).mono ?_; rintro e w' ⟨rfl, rfl⟩))
    go_ret
    exact ⟨rfl, ((Grown.refl _).allocMap _ _).alloc _ _⟩

set_option maxRecDepth 100000 in
set_option maxHeartbeats 1000000 in
theorem holds64_96 (a b : BitVec 64) (w : World) : Calls Tryz.prog 32 #[.int .u8 96, .bool true, .int .u64 (N a), .int .u64 (N b)] w fun e w' => e = .returned (.bool (condS 96 true a b)) ∧ Grown w w' := by
  have hl := run_lookup_lit (P := Tryz.prog) Tryz.underlying97 Tryz.underlying5 (w.alloc (.map (tabE 12) 12)) w.heap.size (tabE 12) 12 96 7 (.agg #[.bool false, .bool false, .bool true, .bool false, .bool true]) (MapKept.heap_alloc w _).1 rfl
  have hd : ∀ c, cmpI (Z (signS (lowS a 64) 64)) (Z (signS (lowS b 64) 64)) = c → condS 96 true a b = condO 96 (uO true a b) c (tO true a b) := by intro c hc; rw [← hc]; rfl
  rcases cmpI_three (Z (signS (lowS a 64) 64)) (Z (signS (lowS b 64) 64)) with h | h | h
  all_goals
    rw [hd _ h]
    clear hd
    go_enter Tryz.func32, Tryz.ntmps32
    go_wp2_with (first | (go_at_call 74; refine (table_any _).mono ?_; rintro e w' ⟨rfl, rfl⟩) | (go_at_call 54; refine (low_N _ _ _ (by decide) (by decide)).mono ?_; rintro e w' ⟨rfl, rfl⟩) | (go_at_call 77; refine (sign_N _ _ _ (by decide) (by decide)).mono ?_; rintro e w' ⟨rfl, rfl⟩) | (go_at_call 75; refine (cmp_u64 _ _ _).mono ?_; rintro e w' ⟨rfl, rfl⟩) | (go_at_call 76; refine (cmp_i64 _ _ _).mono ?_; rintro e w' ⟨rfl, rfl⟩))
    go_ret
    exact ⟨rfl, ((Grown.refl _).allocMap _ _).alloc _ _⟩

set_option maxRecDepth 100000 in
set_option maxHeartbeats 1000000 in
theorem holds64_112 (a b : BitVec 64) (w : World) : Calls Tryz.prog 32 #[.int .u8 112, .bool true, .int .u64 (N a), .int .u64 (N b)] w fun e w' => e = .returned (.bool (condS 112 true a b)) ∧ Grown w w' := by
  have hl := run_lookup_lit (P := Tryz.prog) Tryz.underlying97 Tryz.underlying5 (w.alloc (.map (tabE 12) 12)) w.heap.size (tabE 12) 12 112 8 (.agg #[.bool false, .bool true, .bool true, .bool false, .bool true]) (MapKept.heap_alloc w _).1 rfl
  have hd : ∀ c, cmpI (Z (signS (lowS a 64) 64)) (Z (signS (lowS b 64) 64)) = c → condS 112 true a b = condO 112 (uO true a b) c (tO true a b) := by intro c hc; rw [← hc]; rfl
  rcases cmpI_three (Z (signS (lowS a 64) 64)) (Z (signS (lowS b 64) 64)) with h | h | h
  all_goals
    rw [hd _ h]
    clear hd
    go_enter Tryz.func32, Tryz.ntmps32
    go_wp2_with (first | (go_at_call 74; refine (table_any _).mono ?_; rintro e w' ⟨rfl, rfl⟩) | (go_at_call 54; refine (low_N _ _ _ (by decide) (by decide)).mono ?_; rintro e w' ⟨rfl, rfl⟩) | (go_at_call 77; refine (sign_N _ _ _ (by decide) (by decide)).mono ?_; rintro e w' ⟨rfl, rfl⟩) | (go_at_call 75; refine (cmp_u64 _ _ _).mono ?_; rintro e w' ⟨rfl, rfl⟩) | (go_at_call 76; refine (cmp_i64 _ _ _).mono ?_; rintro e w' ⟨rfl, rfl⟩))
    go_ret
    exact ⟨rfl, ((Grown.refl _).allocMap _ _).alloc _ _⟩

set_option maxRecDepth 100000 in
set_option maxHeartbeats 1000000 in
theorem holds64_192 (a b : BitVec 64) (w : World) : Calls Tryz.prog 32 #[.int .u8 192, .bool true, .int .u64 (N a), .int .u64 (N b)] w fun e w' => e = .returned (.bool (condS 192 true a b)) ∧ Grown w w' := by
  have hl := run_lookup_lit (P := Tryz.prog) Tryz.underlying97 Tryz.underlying5 (w.alloc (.map (tabE 12) 12)) w.heap.size (tabE 12) 12 192 9 (.agg #[.bool true, .bool false, .bool false, .bool false, .bool true]) (MapKept.heap_alloc w _).1 rfl
  have hd : ∀ c, cmpI (Z (signS (lowS a 64) 64)) (Z (signS (lowS b 64) 64)) = c → condS 192 true a b = condO 192 (uO true a b) c (tO true a b) := by intro c hc; rw [← hc]; rfl
  rcases cmpI_three (Z (signS (lowS a 64) 64)) (Z (signS (lowS b 64) 64)) with h | h | h
  all_goals
    rw [hd _ h]
    clear hd
    go_enter Tryz.func32, Tryz.ntmps32
    go_wp2_with (first | (go_at_call 74; refine (table_any _).mono ?_; rintro e w' ⟨rfl, rfl⟩) | (go_at_call 54; refine (low_N _ _ _ (by decide) (by decide)).mono ?_; rintro e w' ⟨rfl, rfl⟩) | (go_at_call 77; refine (sign_N _ _ _ (by decide) (by decide)).mono ?_; rintro e w' ⟨rfl, rfl⟩) | (go_at_call 75; refine (cmp_u64 _ _ _).mono ?_; rintro e w' ⟨rfl, rfl⟩) | (go_at_call 76; refine (cmp_i64 _ _ _).mono ?_; rintro e w' ⟨rfl, rfl⟩))
    go_ret
    exact ⟨rfl, ((Grown.refl _).allocMap _ _).alloc _ _⟩

set_option maxRecDepth 100000 in
set_option maxHeartbeats 1000000 in
theorem holds64_208 (a b : BitVec 64) (w : World) : Calls Tryz.prog 32 #[.int .u8 208, .bool true, .int .u64 (N a), .int .u64 (N b)] w fun e w' => e = .returned (.bool (condS 208 true a b)) ∧ Grown w w' := by
  have hl := run_lookup_lit (P := Tryz.prog) Tryz.underlying97 Tryz.underlying5 (w.alloc (.map (tabE 12) 12)) w.heap.size (tabE 12) 12 208 10 (.agg #[.bool true, .bool true, .bool false, .bool false, .bool true]) (MapKept.heap_alloc w _).1 rfl
  have hd : ∀ c, cmpI (Z (signS (lowS a 64) 64)) (Z (signS (lowS b 64) 64)) = c → condS 208 true a b = condO 208 (uO true a b) c (tO true a b) := by intro c hc; rw [← hc]; rfl
  rcases cmpI_three (Z (signS (lowS a 64) 64)) (Z (signS (lowS b 64) 64)) with h | h | h
  all_goals
    rw [hd _ h]
    clear hd
    go_enter Tryz.func32, Tryz.ntmps32
    go_wp2_with (first | (go_at_call 74; refine (table_any _).mono ?_; rintro e w' ⟨rfl, rfl⟩) | (go_at_call 54; refine (low_N _ _ _ (by decide) (by decide)).mono ?_; rintro e w' ⟨rfl, rfl⟩) | (go_at_call 77; refine (sign_N _ _ _ (by decide) (by decide)).mono ?_; rintro e w' ⟨rfl, rfl⟩) | (go_at_call 75; refine (cmp_u64 _ _ _).mono ?_; rintro e w' ⟨rfl, rfl⟩) | (go_at_call 76; refine (cmp_i64 _ _ _).mono ?_; rintro e w' ⟨rfl, rfl⟩))
    go_ret
    exact ⟨rfl, ((Grown.refl _).allocMap _ _).alloc _ _⟩

set_option maxRecDepth 100000 in
set_option maxHeartbeats 1000000 in
theorem holds64_64 (a b : BitVec 64) (w : World) : Calls Tryz.prog 32 #[.int .u8 64, .bool true, .int .u64 (N a), .int .u64 (N b)] w fun e w' => e = .returned (.bool (condS 64 true a b)) ∧ Grown w w' := by
  have hl := run_lookup_lit (P := Tryz.prog) Tryz.underlying97 Tryz.underlying5 (w.alloc (.map (tabE 12) 12)) w.heap.size (tabE 12) 12 64 11 (.agg #[.bool false, .bool false, .bool false, .bool true, .bool false]) (MapKept.heap_alloc w _).1 rfl
  have hd : condS 64 true a b = tO true a b := rfl
  rw [hd]
  have ht : tO true a b = !(N (lowS a 64 &&& lowS b 64) == 0) := by rw [N_and_beq]; rfl
  rw [ht]
  clear hd ht
  by_cases hz : N (lowS a 64 &&& lowS b 64) = 0
  · rw [hz, show (!((0 : Int) == 0)) = false from rfl]
    go_enter Tryz.func32, Tryz.ntmps32
    go_wp2_with (first | (go_at_call 74; refine (table_any _).mono ?_; rintro e w' ⟨rfl, rfl⟩) | (go_at_call 54; refine (low_N _ _ _ (by decide) (by decide)).mono ?_; rintro e w' ⟨rfl, rfl⟩) | (go_at_call 77; refine (sign_N _ _ _ (by decide) (by decide)).mono ?_; rintro e w' ⟨rfl, rfl⟩) | (go_at_call 75; refine (cmp_u64 _ _ _).mono ?_; rintro e w' ⟨rfl, rfl⟩) | (go_at_call 76; refine (cmp_i64 _ _ _).mono ?_; rintro e w' ⟨rfl, rfl⟩))
    go_ret
    exact ⟨rfl, ((Grown.refl _).allocMap _ _).alloc _ _⟩
  · have hz1 : (N (lowS a 64 &&& lowS b 64) == 0) = false := by simpa using hz
    have hz2 : (N (lowS a 64 &&& lowS b 64) != 0) = true := by simpa using hz
    rw [hz1, show (!false) = true from rfl]
    clear hz
    go_enter Tryz.func32, Tryz.ntmps32
    go_wp2_with (first | (go_at_call 74; refine (table_any _).mono ?_; rintro e w' ⟨rfl, rfl⟩) | (go_at_call 54; refine (low_N _ _ _ (by decide) (by decide)).mono ?_; rintro e w' ⟨rfl, rfl⟩) | (go_at_call 77; refine (sign_N _ _ _ (by decide) (by decide)).mono ?_; rintro e w' ⟨rfl, rfl⟩) | (go_at_call 75; refine (cmp_u64 _ _ _).mono ?_; rintro e w' ⟨rfl, rfl⟩) | (go_at_call 76; refine (cmp_i64 _ _ _).mono ?_; rintro e w' ⟨rfl, rfl⟩))
    go_ret
    exact ⟨rfl, ((Grown.refl _).allocMap _ _).alloc _ _⟩

set_option maxRecDepth 100000 in
set_option maxHeartbeats 1000000 in
theorem holds64_none (x : Int) (hx : NoCond x) (a b : BitVec 64) (w : World) : Calls Tryz.prog 32 #[.int .u8 x, .bool true, .int .u64 (N a), .int .u64 (N b)] w fun e w' => e = .returned (.bool (condS x true a b)) ∧ Grown w w' := by
  have hl := run_lookup_none (P := Tryz.prog) Tryz.underlying97 Tryz.underlying5 (w.alloc (.map (tabE 12) 12)) w.heap.size (tabE 12) 12 x (.agg #[.bool false, .bool false, .bool false, .bool false, .bool false]) (MapKept.heap_alloc w _).1 (find_none hx) (by kernel_rfl)
  have hd : condS x true a b = false := condO_none hx _ _ _
  rw [hd]
  clear hd hx
  go_enter Tryz.func32, Tryz.ntmps32
  go_wp2_with (first | (go_at_call 74; refine (table_any _).mono ?_; rintro e w' ⟨rfl, rfl⟩) | (go_at_call 54; refine (low_N _ _ _ (by decide) (by decide)).mono ?_; rintro e w' ⟨rfl, rfl⟩) | (go_at_call 77; refine (sign_N _ _ _ (by decide) (by decide)).mono ?_; rintro e w' ⟨rfl, rfl⟩) | (go_at_call 75; refine (cmp_u64 _ _ _).mono ?_; rintro e w' ⟨rfl, rfl⟩) | (go_at_call 76; refine (cmp_i64 _ _ _).mono ?_; rintro e w' ⟨rfl, rfl⟩))
  go_ret
  exact ⟨rfl, ((Grown.refl _).allocMap _ _).alloc _ _⟩

theorem holds64 (x : Int) (a b : BitVec 64) (w : World) : Calls Tryz.prog 32 #[.int .u8 x, .bool true, .int .u64 (N a), .int .u64 (N b)] w fun e w' => e = .returned (.bool (condS x true a b)) ∧ Grown w w' := by
  rcases cond_cases x with rfl | rfl | rfl | rfl | rfl | rfl | rfl | rfl | rfl | rfl | rfl | rfl | h
  · exact holds64_0 a b w
  · exact holds64_16 a b w
  · exact holds64_80 a b w
  · exact holds64_32 a b w
  · exact holds64_48 a b w
  · exact holds64_160 a b w
  · exact holds64_176 a b w
  · exact holds64_96 a b w
  · exact holds64_112 a b w
  · exact holds64_192 a b w
  · exact holds64_208 a b w
  · exact holds64_64 a b w
  · exact holds64_none x h a b w
end Go.Proofs.YtchjneodjaakdaaGreat
end
section
namespace Go.Proofs.YtchjneodjaakdaaGreat
set_option maxRecDepth 20000
open Go.RowKit

attribute [local go_sem] u64_wrap u8_wrap wrap64_N ofInt_N u64_and

set_option maxRecDepth 100000 in
set_option maxHeartbeats 1000000 in
theorem holds32_0 (a b : BitVec 64) (w : World) : Calls Tryz.prog 32 #[.int .u8 0, .bool false, .int .u64 (N a), .int .u64 (N b)] w fun e w' => e = .returned (.bool (condS 0 false a b)) ∧ Grown w w' := by
  have hl := run_lookup_lit (P := Tryz.prog) Tryz.underlying97 Tryz.underlying5 (w.alloc (.map (tabE 12) 12)) w.heap.size (tabE 12) 12 0 0 (.agg #[.bool true, .bool true, .bool true, .bool false, .bool false]) (MapKept.heap_alloc w _).1 rfl
  have hd : ∀ c, cmpI (N (lowS a 32)) (N (lowS b 32)) = c → condS 0 false a b = condO 0 c (gO false a b) (tO false a b) := by intro c hc; rw [← hc]; rfl
  rcases cmpI_three (N (lowS a 32)) (N (lowS b 32)) with h | h | h
  all_goals
    rw [hd _ h]
    clear hd
    go_enter Tryz.func32, Tryz.ntmps32
    go_wp2_with (first | (go_at_call 74; refine (table_any _).mono ?_; rintro e w' ⟨rfl, rfl⟩) | (go_at_call 54; refine (low_N _ _ _ (by decide) (by decide)).mono ?_; rintro e w' ⟨rfl, rfl⟩) | (go_at_call 77; refine (sign_N _ _ _ (by decide) (by decide)).mono ?_; rintro e w' ⟨rfl, rfl⟩) | (go_at_call 75; refine (cmp_u64 _ _ _).mono ?_; rintro e w' ⟨rfl, rfl⟩) | (go_at_call 76; refine (cmp_i64 _ _ _).mono ?_; rintro e w' ⟨rfl, rfl⟩))
    go_ret
    exact ⟨rfl, ((Grown.refl _).allocMap _ _).alloc _ _⟩

set_option maxRecDepth 100000 in
set_option maxHeartbeats 1000000 in
theorem holds32_16 (a b : BitVec 64) (w : World) : Calls Tryz.prog 32 #[.int .u8 16, .bool false, .int .u64 (N a), .int .u64 (N b)] w fun e w' => e = .returned (.bool (condS 16 false a b)) ∧ Grown w w' := by
  have hl := run_lookup_lit (P := Tryz.prog) Tryz.underlying97 Tryz.underlying5 (w.alloc (.map (tabE 12) 12)) w.heap.size (tabE 12) 12 16 1 (.agg #[.bool false, .bool true, .bool false, .bool false, .bool false]) (MapKept.heap_alloc w _).1 rfl
  have hd : ∀ c, cmpI (N (lowS a 32)) (N (lowS b 32)) = c → condS 16 false a b = condO 16 c (gO false a b) (tO false a b) := by intro c hc; rw [← hc]; rfl
  rcases cmpI_three (N (lowS a 32)) (N (lowS b 32)) with h | h | h
  all_goals
    rw [hd _ h]
    clear hd
    go_enter Tryz.func32, Tryz.ntmps32
    go_wp2_with (first | (go_at_call 74; refine (table_any _).mono ?_; rintro e w' ⟨rfl, rfl⟩) | (go_at_call 54; refine (low_N _ _ _ (by decide) (by decide)).mono ?_; rintro e w' ⟨rfl, rfl⟩) | (go_at_call 77; refine (sign_N _ _ _ (by decide) (by decide)).mono ?_; rintro e w' ⟨rfl, rfl⟩) | (go_at_call 75; refine (cmp_u64 _ _ _).mono ?_; rintro e w' ⟨rfl, rfl⟩) | (go_at_call 76; refine (cmp_i64 _ _ _).mono ?_; rintro e w' ⟨rfl, rfl⟩))
    go_ret
    exact ⟨rfl, ((Grown.refl _).allocMap _ _).alloc _ _⟩

set_option maxRecDepth 100000 in
set_option maxHeartbeats 1000000 in
theorem holds32_80 (a b : BitVec 64) (w : World) : Calls Tryz.prog 32 #[.int .u8 80, .bool false, .int .u64 (N a), .int .u64 (N b)] w fun e w' => e = .returned (.bool (condS 80 false a b)) ∧ Grown w w' := by
  have hl := run_lookup_lit (P := Tryz.prog) Tryz.underlying97 Tryz.underlying5 (w.alloc (.map (tabE 12) 12)) w.heap.size (tabE 12) 12 80 2 (.agg #[.bool true, .bool false, .bool true, .bool false, .bool false]) (MapKept.heap_alloc w _).1 rfl
  have hd : ∀ c, cmpI (N (lowS a 32)) (N (lowS b 32)) = c → condS 80 false a b = condO 80 c (gO false a b) (tO false a b) := by intro c hc; rw [← hc]; rfl
  rcases cmpI_three (N (lowS a 32)) (N (lowS b 32)) with h | h | h
  all_goals
    rw [hd _ h]
    clear hd
    go_enter Tryz.func32, Tryz.ntmps32
    go_wp2_with (first | (go_at_call 74; refine (table_any _).mono ?_; rintro e w' ⟨rfl, rfl⟩) | (go_at_call 54; refine (low_N _ _ _ (by decide) (by decide)).mono ?_; rintro e w' ⟨rfl, rfl⟩) | (go_at_call 77; refine (sign_N _ _ _ (by decide) (by decide)).mono ?_; rintro e w' ⟨rfl, rfl⟩) | (go_at_call 75; refine (cmp_u64 _ _ _).mono ?_; rintro e w' ⟨rfl, rfl⟩) | (go_at_call 76; refine (cmp_i64 _ _ _).mono ?_; rintro e w' ⟨rfl, rfl⟩))
    go_ret
    exact ⟨rfl, ((Grown.refl _).allocMap _ _).alloc _ _⟩

set_option maxRecDepth 100000 in
set_option maxHeartbeats 1000000 in
theorem holds32_32 (a b : BitVec 64) (w : World) : Calls Tryz.prog 32 #[.int .u8 32, .bool false, .int .u64 (N a), .int .u64 (N b)] w fun e w' => e = .returned (.bool (condS 32 false a b)) ∧ Grown w w' := by
  have hl := run_lookup_lit (P := Tryz.prog) Tryz.underlying97 Tryz.underlying5 (w.alloc (.map (tabE 12) 12)) w.heap.size (tabE 12) 12 32 3 (.agg #[.bool false, .bool false, .bool true, .bool false, .bool false]) (MapKept.heap_alloc w _).1 rfl
  have hd : ∀ c, cmpI (N (lowS a 32)) (N (lowS b 32)) = c → condS 32 false a b = condO 32 c (gO false a b) (tO false a b) := by intro c hc; rw [← hc]; rfl
  rcases cmpI_three (N (lowS a 32)) (N (lowS b 32)) with h | h | h
  all_goals
    rw [hd _ h]
    clear hd
    go_enter Tryz.func32, Tryz.ntmps32
    go_wp2_with (first | (go_at_call 74; refine (table_any _).mono ?_; rintro e w' ⟨rfl, rfl⟩) | (go_at_call 54; refine (low_N _ _ _ (by decide) (by decide)).mono ?_; rintro e w' ⟨rfl, rfl⟩) | (go_at_call 77; refine (sign_N _ _ _ (by decide) (by decide)).mono ?_; rintro e w' ⟨rfl, rfl⟩) | (go_at_call 75; refine (cmp_u64 _ _ _).mono ?_; rintro e w' ⟨rfl, rfl⟩) | (go_at_call 76; refine (cmp_i64 _ _ _).mono ?_; rintro e w' ⟨rfl, rfl⟩))
    go_ret
    exact ⟨rfl, ((Grown.refl _).allocMap _ _).alloc _ _⟩

set_option maxRecDepth 100000 in
set_option maxHeartbeats 1000000 in
theorem holds32_48 (a b : BitVec 64) (w : World) : Calls Tryz.prog 32 #[.int .u8 48, .bool false, .int .u64 (N a), .int .u64 (N b)] w fun e w' => e = .returned (.bool (condS 48 false a b)) ∧ Grown w w' := by
  have hl := run_lookup_lit (P := Tryz.prog) Tryz.underlying97 Tryz.underlying5 (w.alloc (.map (tabE 12) 12)) w.heap.size (tabE 12) 12 48 4 (.agg #[.bool false, .bool true, .bool true, .bool false, .bool false]) (MapKept.heap_alloc w _).1 rfl
  have hd : ∀ c, cmpI (N (lowS a 32)) (N (lowS b 32)) = c → condS 48 false a b = condO 48 c (gO false a b) (tO false a b) := by intro c hc; rw [← hc]; rfl
  rcases cmpI_three (N (lowS a 32)) (N (lowS b 32)) with h | h | h
  all_goals
    rw [hd _ h]
    clear hd
    go_enter Tryz.func32, Tryz.ntmps32
    go_wp2_with (first | (go_at_call 74; refine (table_any _).mono ?_; rintro e w' ⟨rfl, rfl⟩) | (go_at_call 54; refine (low_N _ _ _ (by decide) (by decide)).mono ?_; rintro e w' ⟨rfl, rfl⟩) | (go_at_call 77; refine (sign_N _ _ _ (by decide) (by decide)).mono ?_; rintro e w' ⟨rfl, rfl⟩) | (go_at_call 75; refine (cmp_u64 _ _ _).mono ?_; rintro e w' ⟨rfl, rfl⟩) | (go_at_call 76; refine (cmp_i64 _ _ _).mono ?_; rintro e w' ⟨rfl, rfl⟩))
    go_ret
    exact ⟨rfl, ((Grown.refl _).allocMap _ _).alloc _ _⟩

set_option maxRecDepth 100000 in
set_option maxHeartbeats 1000000 in
theorem holds32_160 (a b : BitVec 64) (w : World) : Calls Tryz.prog 32 #[.int .u8 160, .bool false, .int .u64 (N a), .int .u64 (N b)] w fun e w' => e = .returned (.bool (condS 160 false a b)) ∧ Grown w w' := by
  have hl := run_lookup_lit (P := Tryz.prog) Tryz.underlying97 Tryz.underlying5 (w.alloc (.map (tabE 12) 12)) w.heap.size (tabE 12) 12 160 5 (.agg #[.bool true, .bool false, .bool false, .bool false, .bool false]) (MapKept.heap_alloc w _).1 rfl
  have hd : ∀ c, cmpI (N (lowS a 32)) (N (lowS b 32)) = c → condS 160 false a b = condO 160 c (gO false a b) (tO false a b) := by intro c hc; rw [← hc]; rfl
  rcases cmpI_three (N (lowS a 32)) (N (lowS b 32)) with h | h | h
  all_goals
    rw [hd _ h]
    clear hd
    go_enter Tryz.func32, Tryz.ntmps32
    go_wp2_with (first | (go_at_call 74; refine (table_any _).mono ?_; rintro e w' ⟨rfl, rfl⟩) | (go_at_call 54; refine (low_N _ _ _ (by decide) (by decide)).mono ?_; rintro e w' ⟨rfl, rfl⟩) | (go_at_call 77; refine (sign_N _ _ _ (by decide) (by decide)).mono ?_; rintro e w' ⟨rfl, rfl⟩) | (go_at_call 75; refine (cmp_u64 _ _ _).mono ?_; rintro e w' ⟨rfl, rfl⟩) | (go_at_call 76; refine (cmp_i64 _ _ _).mono ?_; rintro e w' ⟨rfl, rfl⟩))
    go_ret
    exact ⟨rfl, ((Grown.refl _).allocMap _ _).alloc _ _⟩

set_option maxRecDepth 100000 in
set_option maxHeartbeats 1000000 in
theorem holds32_176 (a b : BitVec 64) (w : World) : Calls Tryz.prog 32 #[.int .u8 176, .bool false, .int .u64 (N a), .int .u64 (N b)] w fun e w' => e = .returned (.bool (condS 176 false a b)) ∧ Grown w w' := by
  have hl := run_lookup_lit (P := Tryz.prog) Tryz.underlying97 Tryz.underlying5 (w.alloc (.map (tabE 12) 12)) w.heap.size (tabE 12) 12 176 6 (.agg #[.bool true, .bool true, .bool false, .bool false, .bool false]) (MapKept.heap_alloc w _).1 rfl
  have hd : ∀ c, cmpI (N (lowS a 32)) (N (lowS b 32)) = c → condS 176 false a b = condO 176 c (gO false a b) (tO false a b) := by intro c hc; rw [← hc]; rfl
  rcases cmpI_three (N (lowS a 32)) (N (lowS b 32)) with h | h | h
  all_goals
    rw [hd _ h]
    clear hd
    go_enter Tryz.func32, Tryz.ntmps32
    go_wp2_with (first | (go_at_call 74; refine (table_any _).mono ?_; rintro e w' ⟨rfl, rfl⟩) | (go_at_call 54; refine (low_N _ _ _ (by decide) (by decide)).mono ?_; rintro e w' ⟨rfl, rfl⟩) | (go_at_call 77; refine (sign_N _ _ _ (by decide) (by decide)).mono ?_; rintro e w' ⟨rfl, rfl⟩) | (go_at_call 75; refine (cmp_u64 _ _ _).mono ?_; rintro e w' ⟨rfl, rfl⟩) | (go_at_call 76; refine (cmp_i64 _ _ _).mono ?_; rintro e w' ⟨rfl, rfl⟩))
    go_ret
    exact ⟨rfl, ((Grown.refl _).allocMap _ _).alloc _ _⟩

set_option maxRecDepth 100000 in
set_option maxHeartbeats 1000000 in
theorem holds32_96 (a b : BitVec 64) (w : World) : Calls Tryz.prog 32 #[.int .u8 96, .bool false, .int .u64 (N a), .int .u64 (N b)] w fun e w' => e = .returned (.bool (condS 96 false a b)) ∧ Grown w w' := by
  have hl := run_lookup_lit (P := Tryz.prog) Tryz.underlying97 Tryz.underlying5 (w.alloc (.map (tabE 12) 12)) w.heap.size (tabE 12) 12 96 7 (.agg #[.bool false, .bool false, .bool true, .bool false, .bool true]) (MapKept.heap_alloc w _).1 rfl
  have hd : ∀ c, cmpI (Z (signS (lowS a 32) 32)) (Z (signS (lowS b 32) 32)) = c → condS 96 false a b = condO 96 (uO false a b) c (tO false a b) := by intro c hc; rw [← hc]; rfl
  rcases cmpI_three (Z (signS (lowS a 32) 32)) (Z (signS (lowS b 32) 32)) with h | h | h
  all_goals
    rw [hd _ h]
    clear hd
    go_enter Tryz.func32, Tryz.ntmps32
    go_wp2_with (first | (go_at_call 74; refine (table_any _).mono ?_; rintro e w' ⟨rfl, rfl⟩) | (go_at_call 54; refine (low_N _ _ _ (by decide) (by decide)).mono ?_; rintro e w' ⟨rfl, rfl⟩) | (go_at_call 77; refine (sign_N _ _ _ (by decide) (by decide)).mono ?_; rintro e w' ⟨rfl, rfl⟩) | (go_at_call 75; refine (cmp_u64 _ _ _).mono ?_; rintro e w' ⟨rfl, rfl⟩) | (go_at_call 76; refine (cmp_i64 _ _ _).mono ?_; rintro e w' ⟨rfl, rfl⟩))
    go_ret
    exact ⟨rfl, ((Grown.refl _).allocMap _ _).alloc _ _⟩

set_option maxRecDepth 100000 in
set_option maxHeartbeats 1000000 in
theorem holds32_112 (a b : BitVec 64) (w : World) : Calls Tryz.prog 32 #[.int .u8 112, .bool false, .int .u64 (N a), .int .u64 (N b)] w fun e w' => e = .returned (.bool (condS 112 false a b)) ∧ Grown w w' := by
  have hl := run_lookup_lit (P := Tryz.prog) Tryz.underlying97 Tryz.underlying5 (w.alloc (.map (tabE 12) 12)) w.heap.size (tabE 12) 12 112 8 (.agg #[.bool false, .bool true, .bool true, .bool false, .bool true]) (MapKept.heap_alloc w _).1 rfl
  have hd : ∀ c, cmpI (Z (signS (lowS a 32) 32)) (Z (signS (lowS b 32) 32)) = c → condS 112 false a b = condO 112 (uO false a b) c (tO false a b) := by intro c hc; rw [← hc]; rfl
  rcases cmpI_three (Z (signS (lowS a 32) 32)) (Z (signS (lowS b 32) 32)) with h | h | h
  all_goals
    rw [hd _ h]
    clear hd
    go_enter Tryz.func32, Tryz.ntmps32
    go_wp2_with (first | (go_at_call 74; refine (table_any _).mono ?_; rintro e w' ⟨rfl, rfl⟩) | (go_at_call 54; refine (low_N _ _ _ (by decide) (by decide)).mono ?_; rintro e w' ⟨rfl, rfl⟩) | (go_at_call 77; refine (sign_N _ _ _ (by decide) (by decide)).mono ?_; rintro e w' ⟨rfl, rfl⟩) | (go_at_call 75; refine (cmp_u64 _ _ _).mono ?_; rintro e w' ⟨rfl, rfl⟩) | (go_at_call 76; refine (cmp_i64 _ _ _).mono ?_; rintro e w' ⟨rfl, rfl⟩))
    go_ret
    exact ⟨rfl, ((Grown.refl _).allocMap _ _).alloc _ _⟩

set_option maxRecDepth 100000 in
set_option maxHeartbeats 1000000 in
theorem holds32_192 (a b : BitVec 64) (w : World) : Calls Tryz.prog 32 #[.int .u8 192, .bool false, .int .u64 (N a), .int .u64 (N b)] w fun e w' => e = .returned (.bool (condS 192 false a b)) ∧ Grown w w' := by
  have hl := run_lookup_lit (P := Tryz.prog) Tryz.underlying97 Tryz.underlying5 (w.alloc (.map (tabE 12) 12)) w.heap.size (tabE 12) 12 192 9 (.agg #[.bool true, .bool false, .bool false, .bool false, .bool true]) (MapKept.heap_alloc w _).1 rfl
  have hd : ∀ c, cmpI (Z (signS (lowS a 32) 32)) (Z (signS (lowS b 32) 32)) = c → condS 192 false a b = condO 192 (uO false a b) c (tO false a b) := by intro c hc; rw [← hc]; rfl
  rcases cmpI_three (Z (signS (lowS a 32) 32)) (Z (signS (lowS b 32) 32)) with h | h | h
  all_goals
    rw [hd _ h]
    clear hd
    go_enter Tryz.func32, Tryz.ntmps32
    go_wp2_with (first | (go_at_call 74; refine (table_any _).mono ?_; rintro e w' ⟨rfl, rfl⟩) | (go_at_call 54; refine (low_N _ _ _ (by decide) (by decide)).mono ?_; rintro e w' ⟨rfl, rfl⟩) | (go_at_call 77; refine (sign_N _ _ _ (by decide) (by decide)).mono ?_; rintro e w' ⟨rfl, rfl⟩) | (go_at_call 75; refine (cmp_u64 _ _ _).mono ?_; rintro e w' ⟨rfl, rfl⟩) | (go_at_call 76; refine (cmp_i64 _ _ _).mono ?_; rintro e w' ⟨rfl, rfl⟩))
    go_ret
    exact ⟨rfl, ((Grown.refl _).allocMap _ _).alloc _ _⟩

set_option maxRecDepth 100000 in
set_option maxHeartbeats 1000000 in
theorem holds32_208 (a b : BitVec 64) (w : World) : Calls Tryz.prog 32 #[.int .u8 208, .bool false, .int .u64 (N a), .int .u64 (N b)] w fun e w' => e = .returned (.bool (condS 208 false a b)) ∧ Grown w w' := by
  have hl := run_lookup_lit (P := Tryz.prog) Tryz.underlying97 Tryz.underlying5 (w.alloc (.map (tabE 12) 12)) w.heap.size (tabE 12) 12 208 10 (.agg #[.bool true, .bool true, .bool false, .bool false, .bool true]) (MapKept.heap_alloc w _).1 rfl
  have hd : ∀ c, cmpI (Z (signS (lowS a 32) 32)) (Z (signS (lowS b 32) 32)) = c → condS 208 false a b = condO 208 (uO false a b) c (tO false a b) := by intro c hc; rw [← hc]; rfl
  rcases cmpI_three (Z (signS (lowS a 32) 32)) (Z (signS (lowS b 32) 32)) with h | h | h
  all_goals
    rw [hd _ h]
    clear hd
    go_enter Tryz.func32, Tryz.ntmps32
    go_wp2_with (first | (go_at_call 74; refine (table_any _).mono ?_; rintro e w' ⟨rfl, rfl⟩) | (go_at_call 54; refine (low_N _ _ _ (by decide) (by decide)).mono ?_; rintro e w' ⟨rfl, rfl⟩) | (go_at_call 77; refine (sign_N _ _ _ (by decide) (by decide)).mono ?_; rintro e w' ⟨rfl, rfl⟩) | (go_at_call 75; refine (cmp_u64 _ _ _).mono ?_; rintro e w' ⟨rfl, rfl⟩) | (go_at_call 76; refine (cmp_i64 _ _ _).mono ?_; rintro e w' ⟨rfl, rfl⟩))
    go_ret
    exact ⟨rfl, ((Grown.refl _).allocMap _ _).alloc _ _⟩

set_option maxRecDepth 100000 in
set_option maxHeartbeats 1000000 in
theorem holds32_64 (a b : BitVec 64) (w : World) : Calls Tryz.prog 32 #[.int .u8 64, .bool false, .int .u64 (N a), .int .u64 (N b)] w fun e w' => e = .returned (.bool (condS 64 false a b)) ∧ Grown w w' := by
  have hl := run_lookup_lit (P := Tryz.prog) Tryz.underlying97 Tryz.underlying5 (w.alloc (.map (tabE 12) 12)) w.heap.size (tabE 12) 12 64 11 (.agg #[.bool false, .bool false, .bool false, .bool true, .bool false]) (MapKept.heap_alloc w _).1 rfl
  have hd : condS 64 false a b = tO false a b := rfl
  rw [hd]
  have ht : tO false a b = !(N (lowS a 32 &&& lowS b 32) == 0) := by rw [N_and_beq]; rfl
  rw [ht]
  clear hd ht
  by_cases hz : N (lowS a 32 &&& lowS b 32) = 0
  · rw [hz, show (!((0 : Int) == 0)) = false from rfl]
    go_enter Tryz.func32, Tryz.ntmps32
    go_wp2_with (first | (go_at_call 74; refine (table_any _).mono ?_; rintro e w' ⟨rfl, rfl⟩) | (go_at_call 54; refine (low_N _ _ _ (by decide) (by decide)).mono ?_; rintro e w' ⟨rfl, rfl⟩) | (go_at_call 77; refine (sign_N _ _ _ (by decide) (by decide)).mono ?_; rintro e w' ⟨rfl, rfl⟩) | (go_at_call 75; refine (cmp_u64 _ _ _).mono ?_; rintro e w' ⟨rfl, rfl⟩) | (go_at_call 76; refine (cmp_i64 _ _ _).mono ?_; rintro e w' ⟨rfl, rfl⟩))
    go_ret
    exact ⟨rfl, ((Grown.refl _).allocMap _ _).alloc _ _⟩
  · have hz1 : (N (lowS a 32 &&& lowS b 32) == 0) = false := by simpa using hz
    have hz2 : (N (lowS a 32 &&& lowS b 32) != 0) = true := by simpa using hz
    rw [hz1, show (!false) = true from rfl]
    clear hz
    go_enter Tryz.func32, Tryz.ntmps32
    go_wp2_with (first | (go_at_call 74; refine (table_any _).mono ?_; rintro e w' ⟨rfl, rfl⟩) | (go_at_call 54; refine (low_N _ _ _ (by decide) (by decide)).mono ?_; rintro e w' ⟨rfl, rfl⟩) | (go_at_call 77; refine (sign_N _ _ _ (by decide) (by decide)).mono ?_; rintro e w' ⟨rfl, rfl⟩) | (go_at_call 75; refine (cmp_u64 _ _ _).mono ?_; rintro e w' ⟨rfl, rfl⟩) | (go_at_call 76; refine (cmp_i64 _ _ _).mono ?_; rintro e w' ⟨rfl, rfl⟩))
    go_ret
    exact ⟨rfl, ((Grown.refl _).allocMap _ _).alloc _ _⟩

set_option maxRecDepth 100000 in
set_option maxHeartbeats 1000000 in
theorem holds32_none (x : Int) (hx : NoCond x) (a b : BitVec 64) (w : World) : Calls Tryz.prog 32 #[.int .u8 x, .bool false, .int .u64 (N a), .int .u64 (N b)] w fun e w' => e = .returned (.bool (condS x false a b)) ∧ Grown w w' := by
  have hl := run_lookup_none (P := Tryz.prog) Tryz.underlying97 Tryz.underlying5 (w.alloc (.map (tabE 12) 12)) w.heap.size (tabE 12) 12 x (.agg #[.bool false, .bool false, .bool false, .bool false, .bool false]) (MapKept.heap_alloc w _).1 (find_none hx) (by kernel_rfl)
  have hd : condS x false a b = false := condO_none hx _ _ _
  rw [hd]
  clear hd hx
  go_enter Tryz.func32, Tryz.ntmps32
  go_wp2_with (first | (go_at_call 74; refine (table_any _).mono ?_; rintro e w' ⟨rfl, rfl⟩) | (go_at_call 54; refine (low_N _ _ _ (by decide) (by decide)).mono ?_; rintro e w' ⟨rfl, rfl⟩) | (go_at_call 77; refine (sign_N _ _ _ (by decide) (by decide)).mono ?_; rintro e w' ⟨rfl, rfl⟩) | (go_at_call 75; refine (cmp_u64 _ _ _).mono ?_; rintro e w' ⟨rfl, rfl⟩) | (go_at_call 76; refine (cmp_i64 _ _ _).mono ?_; rintro e w' ⟨rfl, rfl⟩))
  go_ret
  exact ⟨rfl, ((Grown.refl _).allocMap _ _).alloc _ _⟩

theorem holds32 (x : Int) (a b : BitVec 64) (w : World) : Calls Tryz.prog 32 #[.int .u8 x, .bool false, .int .u64 (N a), .int .u64 (N b)] w fun e w' => e = .returned (.bool (condS x false a b)) ∧ Grown w w' := by
  rcases cond_cases x with rfl | rfl | rfl | rfl | rfl | rfl | rfl | rfl | rfl | rfl | rfl | rfl | h
  · exact holds32_0 a b w
  · exact holds32_16 a b w
  · exact holds32_80 a b w
  · exact holds32_32 a b w
  · exact holds32_48 a b w
  · exact holds32_160 a b w
  · exact holds32_176 a b w
  · exact holds32_96 a b w
  · exact holds32_112 a b w
  · exact holds32_192 a b w
  · exact holds32_208 a b w
  · exact holds32_64 a b w
  · exact holds32_none x h a b w
end Go.Proofs.YtchjneodjaakdaaGreat
end
