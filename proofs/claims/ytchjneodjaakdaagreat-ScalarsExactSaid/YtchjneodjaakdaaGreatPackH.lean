/-
  Lemmas for the laws of this seat, part H: MadeHas, ScHas, ScHas2, ScHas3, Open, Law17a, Law17b, PostGr, Law17c, Law17d.
-/
import Derived.Test.YtchjneodjaakdaaGreatPackG
import Derived.ProofKit
import Derived.WalkKit
import Derived.OpenShut
import Derived.WideKeyArgs
import Derived.ChangeSame
section
namespace Go.Proofs.YtchjneodjaakdaaGreat
open Go.RowKit
open Spn (Sp umax umin smax smin okS tightS anyS settledS commonS minW maxW constS addR subR SHas SValid SIn)
attribute [local go_sem] u64_wrap BitVec.ofInt_add ofInt_N ofInt_Nw u64_and u64_or u64_xor wrap64_N ofInt_Z64 max_N min_N max_Z min_Z w_add w_sub

theorem made_has (v b0 b1 b2 b3 : BitVec 64) : SHas (madeS v b0 b1 b2 b3) v := by
  have hv := Spn.two_forms v
  have m0 : N (umin v b0) ≤ N v := by rw [Spn.N_umin]; exact Int.min_le_left _ _
  have m0' := N_nonneg (umin v b0)
  have nn : N (~~~v) = 18446744073709551615 - N v := by
    unfold N; rw [BitVec.toNat_not]; have := v.isLt; omega
  have m1 : N (umin (~~~v) b1) ≤ N (~~~v) := by rw [Spn.N_umin]; exact Int.min_le_left _ _
  have m1' := N_nonneg (umin (~~~v) b1)
  have e0 : N (BitVec.ofInt 64 (N v - N (umin v b0))) = N v - N (umin v b0) := N_ofInt _ (by omega) (by omega)
  have e1 := Spn.N_add v (umin (~~~v) b1)
  have r2 : N (v - 9223372036854775808#64) = Z v + 9223372036854775808 := by
    have h := Spn.N_sub v 9223372036854775808#64
    rw [show N (9223372036854775808#64) = 9223372036854775808 by decide] at h
    omega
  have r3 : N (BitVec.ofInt 64 (9223372036854775807 - N v)) = 9223372036854775807 - Z v := by
    rw [N_ofInt_mod]
    have : ((2 ^ 64 : Nat) : Int) = 18446744073709551616 := by decide
    rw [this]
    omega
  have d1 : N (downW v b2) ≤ N (v - 9223372036854775808#64) := by rw [downW_N]; exact Int.le_trans (Int.min_le_left _ _) (Int.min_le_left _ _)
  have d2 : N (downW v b2) ≤ 9223372036854775807 := by rw [downW_N]; exact Int.min_le_right _ _
  have d3 := N_nonneg (downW v b2)
  have u1 : N (upW v b3) ≤ N (BitVec.ofInt 64 (9223372036854775807 - N v)) := by rw [upW_N]; exact Int.le_trans (Int.min_le_left _ _) (Int.min_le_left _ _)
  have u2 : N (upW v b3) ≤ 9223372036854775807 := by rw [upW_N]; exact Int.min_le_right _ _
  have u3 := N_nonneg (upW v b3)
  have s2 := Spn.N_sub v (downW v b2)
  have s3 := Spn.N_add v (upW v b3)
  have f2 := Spn.two_forms (v - downW v b2)
  have f3 := Spn.two_forms (v + upW v b3)
  rw [r2] at d1
  rw [r3] at u1
  clear r2 r3
  refine ⟨?_, ?_, ?_, ?_⟩
  · show N (BitVec.ofInt 64 (N v - N (umin v b0))) ≤ N v
    omega
  · show N v ≤ N (v + umin (~~~v) b1)
    omega
  · show Z (v - downW v b2) ≤ Z v
    clear e0 e1 m0 m1 nn s3 f3 u1 u2 u3
    omega
  · show Z v ≤ Z (v + upW v b3)
    clear e0 e1 m0 m1 nn s2 f2 d1 d2 d3
    omega
theorem e_upto9 (w : World) : Calls Tryz.prog 92 #[.int .u64 9] w fun e w' => e = .returned (.agg #[.int .u64 0, .int .u64 9, .int .i64 0, .int .i64 9]) ∧ Grown w w' := by
  have h := sp_upto 9#64 (by decide) w
  have n0 : N (9#64) = 9 := by decide +kernel
  have q0 : N (uptoL 9#64).lo = 0 := by decide +kernel
  have q1 : N (uptoL 9#64).hi = 9 := by decide +kernel
  have q2 : Z (uptoL 9#64).slo = 0 := by decide +kernel
  have q3 : Z (uptoL 9#64).shi = 9 := by decide +kernel
  simp only [q0, q1, q2, q3] at h
  simp only [n0] at h
  exact h
theorem e_const1 (w : World) : Calls Tryz.prog 42 #[.int .u64 1] w fun e w' => e = .returned (.agg #[.int .u64 1, .int .u64 1, .int .i64 1, .int .i64 1]) ∧ Grown w w' := by
  have h := sp_const 1#64 w
  have n0 : N (1#64) = 1 := by decide +kernel
  have q0 : N (constS 1#64).lo = 1 := by decide +kernel
  have q1 : N (constS 1#64).hi = 1 := by decide +kernel
  have q2 : Z (constS 1#64).slo = 1 := by decide +kernel
  have q3 : Z (constS 1#64).shi = 1 := by decide +kernel
  simp only [q0, q1, q2, q3] at h
  simp only [n0] at h
  exact h
theorem e_const10 (w : World) : Calls Tryz.prog 42 #[.int .u64 10] w fun e w' => e = .returned (.agg #[.int .u64 10, .int .u64 10, .int .i64 10, .int .i64 10]) ∧ Grown w w' := by
  have h := sp_const 10#64 w
  have n0 : N (10#64) = 10 := by decide +kernel
  have q0 : N (constS 10#64).lo = 10 := by decide +kernel
  have q1 : N (constS 10#64).hi = 10 := by decide +kernel
  have q2 : Z (constS 10#64).slo = 10 := by decide +kernel
  have q3 : Z (constS 10#64).shi = 10 := by decide +kernel
  simp only [q0, q1, q2, q3] at h
  simp only [n0] at h
  exact h
theorem e_add (w : World) : Calls Tryz.prog 56 #[.agg #[.int .u64 0, .int .u64 9, .int .i64 0, .int .i64 9], .agg #[.int .u64 1, .int .u64 1, .int .i64 1, .int .i64 1]] w fun e w' => e = .returned (.agg #[.int .u64 1, .int .u64 10, .int .i64 1, .int .i64 10]) ∧ Grown w w' := by
  have h := sp_add 0#64 9#64 0#64 9#64 1#64 1#64 1#64 1#64 w
  have n0 : N (0#64) = 0 := by decide +kernel
  have n1 : N (1#64) = 1 := by decide +kernel
  have n2 : N (9#64) = 9 := by decide +kernel
  have z0 : Z (0#64) = 0 := by decide +kernel
  have z1 : Z (1#64) = 1 := by decide +kernel
  have z2 : Z (9#64) = 9 := by decide +kernel
  have q0 : N (addR (settledS (⟨0#64, 9#64, 0#64, 9#64⟩ : Sp)) (settledS (⟨1#64, 1#64, 1#64, 1#64⟩ : Sp))).lo = 1 := by decide +kernel
  have q1 : N (addR (settledS (⟨0#64, 9#64, 0#64, 9#64⟩ : Sp)) (settledS (⟨1#64, 1#64, 1#64, 1#64⟩ : Sp))).hi = 10 := by decide +kernel
  have q2 : Z (addR (settledS (⟨0#64, 9#64, 0#64, 9#64⟩ : Sp)) (settledS (⟨1#64, 1#64, 1#64, 1#64⟩ : Sp))).slo = 1 := by decide +kernel
  have q3 : Z (addR (settledS (⟨0#64, 9#64, 0#64, 9#64⟩ : Sp)) (settledS (⟨1#64, 1#64, 1#64, 1#64⟩ : Sp))).shi = 10 := by decide +kernel
  simp only [q0, q1, q2, q3] at h
  simp only [n0, n1, n2, z0, z1, z2] at h
  exact h
theorem e_sub (w : World) : Calls Tryz.prog 58 #[.agg #[.int .u64 0, .int .u64 9, .int .i64 0, .int .i64 9], .agg #[.int .u64 10, .int .u64 10, .int .i64 10, .int .i64 10]] w fun e w' => e = .returned (.agg #[.int .u64 18446744073709551606, .int .u64 18446744073709551615, .int .i64 (-10), .int .i64 (-1)]) ∧ Grown w w' := by
  have h := sp_sub 0#64 9#64 0#64 9#64 10#64 10#64 10#64 10#64 w
  have n0 : N (0#64) = 0 := by decide +kernel
  have n1 : N (9#64) = 9 := by decide +kernel
  have n2 : N (10#64) = 10 := by decide +kernel
  have z0 : Z (0#64) = 0 := by decide +kernel
  have z1 : Z (9#64) = 9 := by decide +kernel
  have z2 : Z (10#64) = 10 := by decide +kernel
  have q0 : N (subR (settledS (⟨0#64, 9#64, 0#64, 9#64⟩ : Sp)) (settledS (⟨10#64, 10#64, 10#64, 10#64⟩ : Sp))).lo = 18446744073709551606 := by decide +kernel
  have q1 : N (subR (settledS (⟨0#64, 9#64, 0#64, 9#64⟩ : Sp)) (settledS (⟨10#64, 10#64, 10#64, 10#64⟩ : Sp))).hi = 18446744073709551615 := by decide +kernel
  have q2 : Z (subR (settledS (⟨0#64, 9#64, 0#64, 9#64⟩ : Sp)) (settledS (⟨10#64, 10#64, 10#64, 10#64⟩ : Sp))).slo = -10 := by decide +kernel
  have q3 : Z (subR (settledS (⟨0#64, 9#64, 0#64, 9#64⟩ : Sp)) (settledS (⟨10#64, 10#64, 10#64, 10#64⟩ : Sp))).shi = -1 := by decide +kernel
  simp only [q0, q1, q2, q3] at h
  simp only [n0, n1, n2, z0, z1, z2] at h
  exact h
theorem e_both (w : World) : Calls Tryz.prog 118 #[.agg #[.int .u64 0, .int .u64 9, .int .i64 0, .int .i64 9], .agg #[.int .u64 10, .int .u64 20, .int .i64 0, .int .i64 20]] w fun e w' => e = .returned (.tuple #[.agg #[.int .u64 0, .int .u64 0, .int .i64 0, .int .i64 0], .bool false]) ∧ Grown w w' := by
  have h := sp_both 0#64 9#64 0#64 9#64 10#64 20#64 0#64 20#64 w
  have n0 : N (0#64) = 0 := by decide +kernel
  have n1 : N (9#64) = 9 := by decide +kernel
  have n2 : N (10#64) = 10 := by decide +kernel
  have n3 : N (20#64) = 20 := by decide +kernel
  have z0 : Z (0#64) = 0 := by decide +kernel
  have z1 : Z (9#64) = 9 := by decide +kernel
  have z2 : Z (20#64) = 20 := by decide +kernel
  have q0 : N (tightS (commonS (⟨0#64, 9#64, 0#64, 9#64⟩ : Sp) (⟨10#64, 20#64, 0#64, 20#64⟩ : Sp))).lo = 0 := by decide +kernel
  have q1 : N (tightS (commonS (⟨0#64, 9#64, 0#64, 9#64⟩ : Sp) (⟨10#64, 20#64, 0#64, 20#64⟩ : Sp))).hi = 0 := by decide +kernel
  have q2 : Z (tightS (commonS (⟨0#64, 9#64, 0#64, 9#64⟩ : Sp) (⟨10#64, 20#64, 0#64, 20#64⟩ : Sp))).slo = 0 := by decide +kernel
  have q3 : Z (tightS (commonS (⟨0#64, 9#64, 0#64, 9#64⟩ : Sp) (⟨10#64, 20#64, 0#64, 20#64⟩ : Sp))).shi = 0 := by decide +kernel
  have q4 : okS (commonS (⟨0#64, 9#64, 0#64, 9#64⟩ : Sp) (⟨10#64, 20#64, 0#64, 20#64⟩ : Sp)) = false := by decide +kernel
  simp only [q0, q1, q2, q3, q4] at h
  simp only [n0, n1, n2, n3, z0, z1, z2] at h
  exact h
theorem e_has1 (w : World) : Calls Tryz.prog 47 #[.agg #[.int .u64 18446744073709551606, .int .u64 18446744073709551615, .int .i64 (-10), .int .i64 (-1)], .int .u64 18446744073709551615] w fun e w' => e = .returned (.bool true) ∧ Grown w w' := by
  have h := sp_has 18446744073709551606#64 18446744073709551615#64 18446744073709551606#64 18446744073709551615#64 18446744073709551615#64 w
  have n0 : N (18446744073709551606#64) = 18446744073709551606 := by decide +kernel
  have n1 : N (18446744073709551615#64) = 18446744073709551615 := by decide +kernel
  have z0 : Z (18446744073709551606#64) = -10 := by decide +kernel
  have z1 : Z (18446744073709551615#64) = -1 := by decide +kernel
  have q0 : hasB (⟨18446744073709551606#64, 18446744073709551615#64, 18446744073709551606#64, 18446744073709551615#64⟩ : Sp) 18446744073709551615#64 = true := by decide +kernel
  simp only [q0] at h
  simp only [n0, n1, z0, z1] at h
  exact h
theorem e_any (w : World) : Calls Tryz.prog 49 #[] w fun e w' => e = .returned (.agg #[.int .u64 0, .int .u64 18446744073709551615, .int .i64 (-9223372036854775808), .int .i64 9223372036854775807]) ∧ Grown w w' := by
  have h := sp_any w
  have q0 : N (anyS).lo = 0 := by decide +kernel
  have q1 : N (anyS).hi = 18446744073709551615 := by decide +kernel
  have q2 : Z (anyS).slo = -9223372036854775808 := by decide +kernel
  have q3 : Z (anyS).shi = 9223372036854775807 := by decide +kernel
  simp only [q0, q1, q2, q3] at h
  exact h
theorem e_has2 (w : World) : Calls Tryz.prog 47 #[.agg #[.int .u64 0, .int .u64 18446744073709551615, .int .i64 (-9223372036854775808), .int .i64 9223372036854775807], .int .u64 9223372036854775808] w fun e w' => e = .returned (.bool true) ∧ Grown w w' := by
  have h := sp_has 0#64 18446744073709551615#64 9223372036854775808#64 9223372036854775807#64 9223372036854775808#64 w
  have n0 : N (0#64) = 0 := by decide +kernel
  have n1 : N (9223372036854775808#64) = 9223372036854775808 := by decide +kernel
  have n2 : N (18446744073709551615#64) = 18446744073709551615 := by decide +kernel
  have z0 : Z (9223372036854775807#64) = 9223372036854775807 := by decide +kernel
  have z1 : Z (9223372036854775808#64) = -9223372036854775808 := by decide +kernel
  have q0 : hasB (⟨0#64, 18446744073709551615#64, 9223372036854775808#64, 9223372036854775807#64⟩ : Sp) 9223372036854775808#64 = true := by decide +kernel
  simp only [q0] at h
  simp only [n0, n1, n2, z0, z1] at h
  exact h
end Go.Proofs.YtchjneodjaakdaaGreat
end
section
namespace Go.Proofs.YtchjneodjaakdaaGreat.Ex
open Go Go.RowKit
open Go.Proofs.YtchjneodjaakdaaGreat.Spn (Sp okS tightS settledS commonS constS SHas SIn SValid two_forms tight_has tight_in tight_cases plus_in minus_in empty_iff plusS minusS emptyS N0 N1 Z0 Nm1 Zm1 N_half)
open Go.Proofs.YtchjneodjaakdaaGreat.Sc (first_has last_has first_ge last_le firstV firstOk lastV lastOk)

def HasN (a : NI) (v : BitVec 64) : Prop := hasT (tB a.t).1 (tB a.t).2 v ∧ SHas (sB a.s) v
def InR (r : RI) (v : BitVec 64) : Prop := r.ok = true ∧ N (B r.lo) ≤ N v ∧ N v ≤ N (B r.hi)
/-- A run of numbers from 0 on, and one of those below 0; none is empty. -/
def PlusR (r : RI) : Prop := r.ok = true → N (B r.lo) ≤ N (B r.hi) ∧ N (B r.hi) < 9223372036854775808
def MinusR (r : RI) : Prop := r.ok = true → N (B r.lo) ≤ N (B r.hi) ∧ 9223372036854775808 ≤ N (B r.lo)
theorem BN (v : BitVec 64) : B (N v) = v := ofInt_N v
theorem BZ (v : BitVec 64) : B (Z v) = v := B_Z v
theorem B_u64 (x : Int) : B (IntKind.u64.wrap x) = B x := by rw [u64_wrap]; exact BN _
theorem B_i64 (x : Int) : B (IntKind.i64.wrap x) = B x := by
  have e : IntKind.i64.wrap x = Z (BitVec.ofInt 64 x) := by rw [Z_ofInt]; unfold wrap64; rw [IntKind.wrap_i64]
  rw [e]; exact BZ _
/-- The halves of what is drawn. -/
theorem tight_half {X : Sp} (h : okS X = true) : (0 ≤ Z (tightS X).slo → N (tightS X).hi < 9223372036854775808) ∧ (Z (tightS X).shi < 0 → 9223372036854775808 ≤ N (tightS X).lo) ∧
    (Z (tightS X).slo < 0 → 0 ≤ Z (tightS X).shi → N (tightS X).lo ≤ N (tightS X).shi ∧ N (tightS X).slo ≤ N (tightS X).hi) := by
  have ep := empty_iff (plusS X)
  have em := empty_iff (minusS X)
  have fp1 := two_forms (plusS X).1
  have fp2 := two_forms (plusS X).2
  have fm1 := two_forms (minusS X).1
  have fm2 := two_forms (minusS X).2
  have ip := @plus_in X
  have im := @minus_in X
  rcases tight_cases X with ⟨ho, h1, h2⟩ | ⟨ho, h1, h2, e⟩ | ⟨ho, h1, h2, e⟩ | ⟨ho, h1, h2, e⟩
  · rw [h] at ho; cases ho
  all_goals
    simp only [h1, h2, Bool.true_eq_false, Bool.false_eq_true, false_and, or_false, false_or, true_and] at ep em
    rw [e]
    dsimp only
    first
      | (have ip' := ip ep; have im' := im em; clear ip im; omega)
      | (have ip' := ip ep; clear ip im; omega)
      | (have im' := im em; clear ip im; omega)
theorem halves_has {X : Sp} {v : BitVec 64} (_hk : okS X = true) (h : SHas (tightS X) v) :
    (InR (halvesI (sN (tightS X))).1 v ∨ InR (halvesI (sN (tightS X))).2 v) := by
  have hv := two_forms v
  have f1 := two_forms (tightS X).slo
  have f2 := two_forms (tightS X).shi
  obtain ⟨h1, h2, h3, h4⟩ := h
  unfold halvesI sN
  simp only
  split
  · left; exact ⟨rfl, by rw [BN]; exact h1, by rw [BN]; exact h2⟩
  · rename_i n1
    simp only [decide_eq_true_eq] at n1
    split
    · right; exact ⟨rfl, by rw [BN]; exact h1, by rw [BN]; exact h2⟩
    · rename_i n2
      simp only [decide_eq_true_eq] at n2
      by_cases hz : 0 ≤ Z v
      · left
        refine ⟨rfl, by rw [BN]; exact h1, ?_⟩
        simp only [B_u64, BZ]
        omega
      · right
        refine ⟨rfl, ?_, by rw [BN]; exact h2⟩
        simp only [B_u64, BZ]
        omega
theorem halves_parts {X : Sp} (hk : okS X = true) : PlusR (halvesI (sN (tightS X))).1 ∧ MinusR (halvesI (sN (tightS X))).2 := by
  obtain ⟨t1, t2, t3⟩ := tight_half hk
  obtain ⟨⟨v1, v2⟩, _⟩ := tight_in hk
  have f1 := two_forms (tightS X).slo
  have f2 := two_forms (tightS X).shi
  unfold halvesI sN
  simp only
  split
  · rename_i n1
    simp only [decide_eq_true_eq] at n1
    exact ⟨(fun _ => by rw [BN, BN]; exact ⟨v1, t1 n1⟩), (fun h => by cases h)⟩
  · rename_i n1
    simp only [decide_eq_true_eq] at n1
    split
    · rename_i n2
      simp only [decide_eq_true_eq] at n2
      exact ⟨(fun h => by cases h), fun _ => by rw [BN, BN]; exact ⟨v1, t2 n2⟩⟩
    · rename_i n2
      simp only [decide_eq_true_eq] at n2
      have t3' := t3 (by omega) (by omega)
      exact ⟨(fun _ => by simp only [B_u64, BZ, BN]; omega), (fun _ => by simp only [B_u64, BZ, BN]; omega)⟩
theorem among_has {r : RI} {t : TI} {v : BitVec 64} (h : InR r v) (ht : hasT (tB t).1 (tB t).2 v) : InR (amongI r t) v := by
  obtain ⟨h0, h1, h2⟩ := h
  obtain ⟨f1, f2⟩ := first_has (t := tB t) ht h1
  obtain ⟨l1, l2⟩ := last_has (t := tB t) ht h2
  have e1 : firstK t r.lo = true := f1
  have e2 : lastK t r.hi = true := l1
  have e3 : decide (firstI t r.lo > lastI t r.hi) = false := by
    refine decide_eq_false ?_
    unfold firstI lastI
    omega
  unfold amongI
  rw [h0, e1, e2, e3]
  refine ⟨rfl, ?_, ?_⟩
  · show N (B (firstI t r.lo)) ≤ N v
    unfold firstI; rw [BN]; exact f2
  · show N v ≤ N (B (lastI t r.hi))
    unfold lastI; rw [BN]; exact l2
theorem among_in {r : RI} {t : TI} (h : (amongI r t).ok = true) : r.ok = true ∧ N (B r.lo) ≤ N (B (amongI r t).lo) ∧ N (B (amongI r t).lo) ≤ N (B (amongI r t).hi) ∧ N (B (amongI r t).hi) ≤ N (B r.hi) := by
  unfold amongI at h ⊢
  split at h
  · rename_i hc
    rw [if_pos hc]
    simp only [Bool.and_eq_true, Bool.not_eq_true', decide_eq_false_iff_not] at hc
    obtain ⟨⟨⟨h0, h1⟩, h2⟩, h3⟩ := hc
    refine ⟨h0, ?_, ?_, ?_⟩
    · show _ ≤ N (B (firstI t r.lo)); unfold firstI; rw [BN]; exact first_ge h1
    · show N (B (firstI t r.lo)) ≤ N (B (lastI t r.hi))
      unfold firstI lastI at h3 ⊢; rw [BN, BN]; omega
    · show N (B (lastI t r.hi)) ≤ _; unfold lastI; rw [BN]; exact last_le h2
  · cases h
theorem plus_among {r : RI} {t : TI} (h : PlusR r) : PlusR (amongI r t) := fun hk => by
  obtain ⟨h0, h1, h2, h3⟩ := among_in hk
  have := h h0
  exact ⟨h2, by omega⟩
theorem minus_among {r : RI} {t : TI} (h : MinusR r) : MinusR (amongI r t) := fun hk => by
  obtain ⟨h0, h1, h2, h3⟩ := among_in hk
  have := h h0
  exact ⟨h2, by omega⟩
theorem known_has {p m : RI} {v : BitVec 64} (h : InR p v ∨ InR m v) : hasT (tB (knownI p m)).1 (tB (knownI p m)).2 v := by
  unfold knownI
  cases hm : m.ok with
  | false =>
    simp only [Bool.false_eq_true, if_false]
    rcases h with h | h
    · rw [tRangeI, tB_tN]; exact has_range h.2.1 h.2.2
    · exact absurd (hm.symm.trans h.1) (by decide)
  | true =>
    simp only [if_true]
    cases hp : p.ok with
    | false =>
      simp only [Bool.false_eq_true, if_false]
      rcases h with h | h
      · exact absurd (hp.symm.trans h.1) (by decide)
      · rw [tRangeI, tB_tN]; exact has_range h.2.1 h.2.2
    | true =>
      simp only [if_true, tEitherI, tRangeI, tB_tN]
      rcases h with h | h
      · exact has_eitherL (has_range h.2.1 h.2.2)
      · exact has_eitherR (has_range h.2.1 h.2.2)
theorem hull_has {p m : RI} {v : BitVec 64} (hp : PlusR p) (hm : MinusR m) (h : InR p v ∨ InR m v) : SHas (sB (hullI p m)) v := by
  have hv := two_forms v
  have a1 := two_forms (B p.lo)
  have a2 := two_forms (B p.hi)
  have a3 := two_forms (B m.lo)
  have a4 := two_forms (B m.hi)
  unfold hullI
  cases km : m.ok with
  | false =>
    simp only [Bool.false_eq_true, if_false]
    rcases h with h | h
    · have := hp h.1
      obtain ⟨_, h1, h2⟩ := h
      unfold SHas sB
      simp only [B_i64]
      omega
    · exact absurd (km.symm.trans h.1) (by decide)
  | true =>
    have hm' := hm km
    simp only [if_true]
    cases kp : p.ok with
    | false =>
      simp only [Bool.false_eq_true, if_false]
      rcases h with h | h
      · exact absurd (kp.symm.trans h.1) (by decide)
      · obtain ⟨_, h1, h2⟩ := h
        unfold SHas sB
        simp only [B_i64]
        omega
    | true =>
      have hp' := hp kp
      simp only [if_true]
      unfold SHas sB
      simp only [B_i64]
      rcases h with ⟨_, h1, h2⟩ | ⟨_, h1, h2⟩ <;> omega
theorem both_has {a b : TI} {v : BitVec 64} (ha : hasT (tB a).1 (tB a).2 v) (hb : hasT (tB b).1 (tB b).2 v) : tBothKI a b = true ∧ hasT (tB (tBothI a b)).1 (tB (tBothI a b)).2 v := by
  obtain ⟨h1, h2⟩ := both_some ha hb
  have e : (N (((tB a).1 ^^^ (tB b).1) &&& ~~~(tB a).2 &&& ~~~(tB b).2) == 0) = true := by rw [h1]; rfl
  refine ⟨e, ?_⟩
  unfold tBothI
  rw [tB_tN]
  unfold tBothV
  rw [if_pos e]
  exact h2
theorem tight_has' {a : NI} {v : BitVec 64} (h : HasN a v) : tightK a = true ∧ HasN (tightI a) v := by
  obtain ⟨ht, hs⟩ := h
  obtain ⟨k1, k2⟩ := tight_has hs
  have e : sTightI a.s = sN (tightS (sB a.s)) := rfl
  have hh := halves_has k1 k2
  have hpm := halves_parts k1
  rw [← e] at hh hpm
  have hin : InR (tP a) v ∨ InR (tM a) v := hh.imp (fun x => among_has x ht) (fun x => among_has x ht)
  have hp : PlusR (tP a) := plus_among hpm.1
  have hm : MinusR (tM a) := minus_among hpm.2
  have hok : ((tP a).ok || (tM a).ok) = true := by
    rcases hin with h | h
    · rw [h.1]; rfl
    · rw [h.1]; simp
  obtain ⟨b1, b2⟩ := both_has ht (known_has hin)
  have hk : tightK a = true := by
    unfold tightK
    rw [show sTightKI a.s = true from k1, hok, b1]; rfl
  refine ⟨hk, ?_⟩
  unfold tightI
  rw [if_pos hk]
  exact ⟨b2, hull_has hp hm hin⟩
theorem tight_okT {a : NI} (h : tightK a = true) : okT (tB (tightI a).t).1 (tB (tightI a).t).2 := by
  have h' := h
  unfold tightK at h'
  simp only [Bool.and_eq_true] at h'
  have hb : (N (((tB a.t).1 ^^^ (tB (knownI (tP a) (tM a))).1) &&& ~~~(tB a.t).2 &&& ~~~(tB (knownI (tP a) (tM a))).2) == 0) = true := h'.2
  unfold tightI
  rw [if_pos h]
  show okT (tB (tBothI a.t (knownI (tP a) (tM a)))).1 _
  unfold tBothI
  rw [tB_tN]
  unfold tBothV
  rw [if_pos hb]
  exact ok_of _ _
theorem settled_has' {a : NI} {v : BitVec 64} (h : HasN a v) : HasN (settledI a) v := by
  unfold settledI
  split
  · exact (tight_has' h).2
  · exact h
theorem and_all (v : BitVec 64) : v &&& 18446744073709551615#64 = v := by rw [show (18446744073709551615#64 : BitVec 64) = BitVec.allOnes 64 from by decide, BitVec.and_allOnes]
theorem any_has' (v : BitVec 64) : HasN anyN v := by
  refine ⟨?_, ?_⟩
  · show v &&& ~~~(B 18446744073709551615) = B 0
    have e : ~~~(B 18446744073709551615) = 0#64 := by decide
    rw [e, show B 0 = 0#64 from rfl]; simp
  · exact Spn.any_has v
theorem const_has' (v : BitVec 64) : HasN (constI (N v)) v := by
  refine ⟨?_, ?_⟩
  · show v &&& ~~~(B 0) = B (N v)
    rw [BN, show B 0 = 0#64 from rfl]; simp [and_all]
  · show SHas (sB (sN (constS (B (N v))))) v
    rw [sB_sN, BN]; exact Spn.const_has v
theorem const_okT (x : Int) : okT (tB (constI x).t).1 (tB (constI x).t).2 := by
  show B x &&& B 0 = 0#64
  rw [show B 0 = 0#64 from rfl]; simp
theorem one_has {a : NI} {v : BitVec 64} (hk : oneK a = true) (hw : nW a = true) (h : HasN a v) : oneI a = N v := by
  unfold oneK at hk
  simp only [bne, Bool.not_not, beq_iff_eq] at hk
  unfold oneI
  rw [if_neg (by simp [bne, hk])]
  have h1 : v &&& ~~~(B a.t.m) = B a.t.v := h.1
  rw [hk, show B 0 = 0#64 from rfl] at h1
  have h2 : v = B a.t.v := by simpa [and_all] using h1
  unfold nW tW at hw
  simp only [Bool.and_eq_true] at hw
  obtain ⟨y, hy⟩ := uB_eq hw.1.1
  rw [h2, hy, BN]
end Go.Proofs.YtchjneodjaakdaaGreat.Ex
end
section
namespace Go.Proofs.YtchjneodjaakdaaGreat.Ex
open Go Go.RowKit
open Go.Proofs.YtchjneodjaakdaaGreat.Spn (Sp okS tightS settledS commonS constS SHas two_forms N0 N1 Z0 settled_has addR_has subR_has mulR_has divR_has modR_has andR_has orR_has xorR_has lshR_has rshR_has arshR_has low32R_has halfW N_half N_shr' Z_shr')

theorem half_set (z : BitVec 64) : z &&& halfW = (z.setWidth 32).setWidth 64 := by
  apply BitVec.eq_of_toNat_eq
  have h := N_half z
  unfold N at h
  rw [BitVec.toNat_setWidth, BitVec.toNat_setWidth]
  have := z.isLt
  omega
theorem upto_has' {h : Int} {z : BitVec 64} (hw : uB h = true) (hz : N z ≤ N (B h)) : HasN (uptoI h) z := by
  obtain ⟨y, rfl⟩ := uB_eq hw
  rw [BN y] at hz
  have fz := two_forms z
  have fy := two_forms y
  refine ⟨?_, ?_⟩
  · show hasT (tB (tRangeI 0 (N y))).1 (tB (tRangeI 0 (N y))).2 z
    rw [tRangeI, tB_tN, BN y]
    exact has_range (by rw [show B 0 = 0#64 from rfl, N0]; exact N_nonneg z) hz
  · show SHas (sB (sUptoI (N y))) z
    unfold sUptoI
    split
    · rename_i hc
      simp only [decide_eq_true_eq] at hc
      unfold SHas sB
      simp only [B_i64, BN y, show B 0 = 0#64 from rfl, N0, Z0]
      omega
    · unfold SHas sB
      simp only [BN y, show B 0 = 0#64 from rfl, N0, show Z (B (-9223372036854775808)) = -9223372036854775808 from by decide, show Z (B 9223372036854775807) = 9223372036854775807 from by decide]
      omega
theorem small_mod {c : BitVec 64} (h : c.toNat < 64) : (B (N c) &&& 63#64).toNat = c.toNat ∧ (N c % 64).toNat = c.toNat := by
  constructor
  · rw [BN, BitVec.toNat_and, show (63#64 : BitVec 64).toNat = 2 ^ 6 - 1 from rfl, Nat.and_two_pow_sub_one_eq_mod, Nat.mod_eq_of_lt h]
  · unfold N; omega
theorem lsh_has' {a : NI} {v c : BitVec 64} (hc : c.toNat < 64) (h : HasN a v) : HasN (lshI a (N c)) (v <<< c.toNat) := by
  obtain ⟨e1, e2⟩ := small_mod hc
  refine ⟨?_, ?_⟩
  · show hasT (tB (tLshI a.t (N c))).1 (tB (tLshI a.t (N c))).2 _
    rw [tLshI, tB_tN, e1]; exact has_lsh h.1 _
  · show SHas (sB (sLshI a.s (N c))) _
    rw [sLshI, sB_sN, e2]; exact lshR_has _ (settled_has h.2)
theorem rsh_has' {a : NI} {v c : BitVec 64} (hc : c.toNat < 64) (h : HasN a v) : HasN ⟨tRshI a.t (N c), sRshI a.s (N c)⟩ (v >>> c.toNat) := by
  obtain ⟨e1, e2⟩ := small_mod hc
  refine ⟨?_, ?_⟩
  · show hasT (tB (tRshI a.t (N c))).1 (tB (tRshI a.t (N c))).2 _
    rw [tRshI, tB_tN, e1]; exact has_rsh h.1 _
  · show SHas (sB (sRshI a.s (N c))) _
    rw [sRshI, sB_sN, e2]; exact rshR_has _ (settled_has h.2)
theorem arsh_has' {a : NI} {v c : BitVec 64} (hc : c.toNat < 64) (h : HasN a v) : HasN (arshI a (N c)) (v.sshiftRight c.toNat) := by
  obtain ⟨e1, e2⟩ := small_mod hc
  refine ⟨?_, ?_⟩
  · show hasT (tB (tArshI a.t (N c))).1 (tB (tArshI a.t (N c))).2 _
    rw [tArshI, tB_tN, e1]; exact has_arsh h.1 _
  · show SHas (sB (sArshI a.s (N c))) _
    rw [sArshI, sB_sN, e2]; exact arshR_has _ (settled_has h.2)
theorem low_has' {a : NI} {v : BitVec 64} (h : HasN a v) : HasN (lowI a) (v &&& halfW) := by
  refine settled_has' ⟨?_, ?_⟩
  · show hasT (tB (tLowI a.t 32)).1 (tB (tLowI a.t 32)).2 _
    rw [tLowI, tB_tN]
    unfold tLow
    rw [if_neg (by omega), if_neg (by omega), show (1#64 <<< (32 : Int).toNat - 1#64 : BitVec 64) = halfW from by decide]
    exact has_low h.1 halfW
  · show SHas (sB (sLowI a.s)) _
    rw [sLowI, sB_sN]; exact low32R_has (settled_has h.2)
theorem and_N (y m : BitVec 64) (n : Int) (hm : B n = m) : andI (N y) n = N (y &&& m) := by
  unfold andI
  show IntKind.u64.wrap (((B (N y) &&& B n).toNat : Nat) : Int) = _
  rw [hm, BN, u64_wrap, BitVec.ofInt_natCast, BitVec.ofNat_toNat, BitVec.setWidth_eq]
theorem cnt_N (y m : BitVec 64) (n : Int) (hm : B n = m) (hs : (y &&& m).toNat < 9223372036854775808) : cntI (N y) n = N (y &&& m) := by
  unfold cntI
  rw [and_N y m n hm, i64_wrap_N]
  have := two_forms (y &&& m)
  have h : N (y &&& m) < 9223372036854775808 := by unfold N; omega
  omega
theorem and63_lt (y : BitVec 64) : (y &&& 63#64).toNat = y.toNat % 64 := by
  rw [BitVec.toNat_and, show (63#64 : BitVec 64).toNat = 2 ^ 6 - 1 from rfl, Nat.and_two_pow_sub_one_eq_mod]
theorem and31_lt (y : BitVec 64) : (y &&& 31#64).toNat = y.toNat % 32 := by
  rw [BitVec.toNat_and, show (31#64 : BitVec 64).toNat = 2 ^ 5 - 1 from rfl, Nat.and_two_pow_sub_one_eq_mod]
theorem N_sshr_le {x : BitVec 64} (k : Nat) (h : 0 ≤ Z x) : N (x.sshiftRight k) ≤ N x := by
  have h1 := Z_shr' x k
  have h2 := two_forms x
  have h3 := two_forms (x.sshiftRight k)
  have hp : (0 : Int) < 2 ^ k := by exact_mod_cast Nat.two_pow_pos k
  have h4 : 0 ≤ Z x / 2 ^ k := Int.ediv_nonneg h (by omega)
  have h5 : Z x / 2 ^ k ≤ Z x := Int.ediv_le_self _ h
  omega
theorem moved_has {a b : NI} {x y : BitVec 64} (ha : HasN a x) (hb : HasN b y) (wa : nW a = true) (wb : nW b = true) :
    HasN (movedI 96 a b) (x <<< (y.toNat % 64)) ∧ HasN (movedI 112 a b) (x >>> (y.toNat % 64)) ∧ HasN (movedI 192 a b) (x.sshiftRight (y.toNat % 64)) := by
  have e63 : (y &&& 63#64).toNat = y.toNat % 64 := and63_lt y
  have wa' := wa
  unfold nW sW at wa'
  simp only [Bool.and_eq_true] at wa'
  obtain ⟨hh, ehh⟩ := uB_eq wa'.2.1.1.2
  cases k : oneK b with
  | true =>
    have e1 := one_has k wb hb
    have e2 : cntI (oneI b) 63 = N (y &&& 63#64) := by rw [e1]; exact cnt_N y _ 63 rfl (by rw [e63]; omega)
    have hlt : (y &&& 63#64).toNat < 64 := by rw [e63]; omega
    refine ⟨?_, ?_, ?_⟩
    · unfold movedI; rw [if_pos k, if_pos rfl, e2, ← e63]; exact lsh_has' hlt ha
    · unfold movedI; rw [if_pos k, if_neg (by decide), if_pos rfl, e2, ← e63]; exact rsh_has' hlt ha
    · unfold movedI; rw [if_pos k, if_neg (by decide), if_neg (by decide), e2, ← e63]; exact arsh_has' hlt ha
  | false =>
    have kn : ¬ oneK b = true := by rw [k]; decide
    have hx : N x ≤ N (B a.s.hi) := ha.2.2.1
    refine ⟨?_, ?_, ?_⟩
    · unfold movedI; rw [if_neg kn, if_neg (by decide), if_neg (by decide)]; exact any_has' _
    · unfold movedI; rw [if_neg kn, if_pos rfl]
      refine upto_has' wa'.2.1.1.2 (Int.le_trans ?_ hx)
      rw [N_shr']
      have hp : (0 : Int) < 2 ^ (y.toNat % 64) := by exact_mod_cast Nat.two_pow_pos _
      exact Int.ediv_le_self _ (N_nonneg x)
    · unfold movedI; rw [if_neg kn, if_neg (by decide), if_pos rfl]
      obtain ⟨z, ez⟩ := zB_eq wa'.2.1.2
      obtain ⟨u, eu⟩ := zB_eq wa'.2.2
      have hlo : Z (B a.s.slo) ≤ Z x := ha.2.2.2.1
      have hhi : Z x ≤ Z (B a.s.shi) := ha.2.2.2.2
      rw [ez, BZ] at hlo
      rw [eu, BZ] at hhi
      split
      · rename_i hc
        simp only [decide_eq_true_eq] at hc
        exact upto_has' wa'.2.1.1.2 (Int.le_trans (N_sshr_le _ (by omega)) hx)
      · rename_i hc
        simp only [decide_eq_true_eq] at hc
        have h1 := Z_shr' x (y.toNat % 64)
        have hp : (0 : Int) < 2 ^ (y.toNat % 64) := by exact_mod_cast Nat.two_pow_pos _
        have fs := two_forms (x.sshiftRight (y.toNat % 64))
        have fx := two_forms x
        refine ⟨(any_has' _).1, ?_⟩
        have g1 : Z z ≤ Z (x.sshiftRight (y.toNat % 64)) := by
          rw [h1]
          by_cases hn : 0 ≤ Z x
          · have := Int.ediv_nonneg hn (Int.le_of_lt hp); omega
          · have : Z x ≤ Z x / 2 ^ (y.toNat % 64) := by
              rw [Int.le_ediv_iff_mul_le hp]
              generalize (2 : Int) ^ (y.toNat % 64) = P at *
              have := Int.mul_le_mul_of_nonneg_right (show Z x ≤ 0 by omega) (show 0 ≤ P - 1 by omega)
              rw [Int.mul_sub, Int.mul_one, Int.zero_mul] at this
              omega
            omega
        have g2 : Z (x.sshiftRight (y.toNat % 64)) ≤ (if -1 > Z u then -1 else Z u) := by
          rw [h1]
          by_cases hn : 0 ≤ Z x
          · have := Int.ediv_le_self (2 ^ (y.toNat % 64)) hn
            split <;> omega
          · have : Z x / 2 ^ (y.toNat % 64) < 0 := Int.ediv_neg_of_neg_of_pos (by omega) hp
            split <;> omega
        unfold SHas sB
        simp only
        rw [ez, eu, BZ]
        have e : Z (B (if -1 > Z u then -1 else Z u)) = if -1 > Z u then -1 else Z u := by
          split
          · decide
          · rw [BZ]
        rw [e]
        refine ⟨by rw [show B 0 = 0#64 from rfl, N0]; omega, by rw [show N (B 18446744073709551615) = 18446744073709551615 from by decide]; omega, g1, g2⟩
end Go.Proofs.YtchjneodjaakdaaGreat.Ex
end
section
namespace Go.Proofs.YtchjneodjaakdaaGreat.Ex
open Go Go.RowKit
open Go.Proofs.YtchjneodjaakdaaGreat.Spn (Sp okS tightS settledS commonS constS SHas two_forms N0 N1 Z0 settled_has addR_has subR_has mulR_has divR_has modR_has andR_has orR_has xorR_has halfW N_half)

def OkN (a : NI) : Prop := okT (tB a.t).1 (tB a.t).2
theorem T_has {t : TI} {x : BitVec 64 × BitVec 64} (e : t = tN x) {v : BitVec 64} (h : hasT x.1 x.2 v) : hasT (tB t).1 (tB t).2 v := by rw [e, tB_tN]; exact h
theorem S_has {s : SI} {x : Sp} (e : s = sN x) {v : BitVec 64} (h : SHas x v) : SHas (sB s) v := by rw [e, sB_sN]; exact h
theorem anyT_has (v : BitVec 64) : hasT (tB anyT).1 (tB anyT).2 v := (any_has' v).1
theorem aluW_shift {x y : BitVec 64} : aluW 96 x y = x <<< (y.toNat % 64) ∧ aluW 112 x y = x >>> (y.toNat % 64) ∧ aluW 192 x y = x.sshiftRight (y.toNat % 64) := ⟨rfl, rfl, rfl⟩
theorem do_has {op : Int} {a b : NI} {x y : BitVec 64} (ha : HasN a x) (hb : HasN b y) (oa : OkN a) (ob : OkN b) (wa : nW a = true) (wb : nW b = true) : HasN (doI op a b) (aluW op x y) := by
  have sa := settled_has ha.2
  have sb := settled_has hb.2
  obtain ⟨m1, m2, m3⟩ := moved_has ha hb wa wb
  rcases alu_cases op with rfl | rfl | rfl | rfl | rfl | rfl | rfl | rfl | rfl | rfl | rfl | rfl | rfl | hn
  · exact ⟨T_has (t := tAddI a.t b.t) rfl (has_add oa ob ha.1 hb.1), S_has (s := sAddI a.s b.s) rfl (addR_has sa sb)⟩
  · exact ⟨T_has (t := tSubI a.t b.t) rfl (has_sub oa ob ha.1 hb.1), S_has (s := sSubI a.s b.s) rfl (subR_has sa sb)⟩
  · exact ⟨T_has (t := tMulI a.t b.t) rfl (has_mul oa ob ha.1 hb.1), S_has (s := sMulI a.s b.s) rfl (mulR_has sa sb)⟩
  · exact ⟨anyT_has _, S_has (s := sDivI a.s b.s) rfl (divR_has sa sb)⟩
  · refine ⟨anyT_has _, S_has (s := sModI a.s b.s) rfl ?_⟩
    have h := modR_has sa sb
    by_cases hy : y = 0#64
    · rw [if_pos hy] at h
      show SHas _ (x % y)
      rw [hy, BitVec.umod_zero]; exact h
    · rw [if_neg hy] at h; exact h
  · exact ⟨T_has (t := tOrI a.t b.t) rfl (has_or ha.1 hb.1), S_has (s := sOrI a.s b.s) rfl (orR_has sa sb)⟩
  · exact ⟨T_has (t := tAndI a.t b.t) rfl (has_and ha.1 hb.1), S_has (s := sAndI a.s b.s) rfl (andR_has sa sb)⟩
  · exact ⟨T_has (t := tXorI a.t b.t) rfl (has_xor ha.1 hb.1), S_has (s := sXorI a.s b.s) rfl (xorR_has sa sb)⟩
  · exact m1
  · exact m2
  · exact m3
  · have c0 : HasN (constI 0) 0#64 := const_has' 0#64
    have h : (0#64 - x) = aluW 128 x y := by show 0#64 - x = -x; simp
    rw [← h]
    exact ⟨T_has (t := tSubI (constI 0).t a.t) rfl (has_sub (const_okT 0) oa c0.1 ha.1), S_has (s := sSubI (constI 0).s a.s) rfl (subR_has (settled_has c0.2) sa)⟩
  · exact hb
  · rw [aluW_none hn]
    obtain ⟨n0, n16, n32, n48, n144, n64, n80, n160, n96, n112, n192, n128, n176⟩ := hn
    simp only [doI, if_neg n0, if_neg n16, if_neg n32, if_neg n48, if_neg n144, if_neg n64, if_neg n80, if_neg n160, if_neg n96, if_neg n112, if_neg n192, if_neg n128, if_neg n176]
    exact const_has' 0#64
/-! 32 bits within 64. -/
theorem ext_nat (x : BitVec 32) : (x.setWidth 64).toNat = x.toNat := by rw [BitVec.toNat_setWidth]; have := x.isLt; omega
theorem low_back (x : BitVec 32) : (x.setWidth 64).setWidth 32 = x := by
  apply BitVec.eq_of_toNat_eq
  rw [BitVec.toNat_setWidth, ext_nat]; have := x.isLt; omega
theorem alu_low {op : Int} (x y : BitVec 32) (h1 : ¬ op = 96) (h2 : ¬ op = 112) (h3 : ¬ op = 192) : (aluW op (x.setWidth 64) (y.setWidth 64)).setWidth 32 = aluW op x y := by
  have hx := x.isLt
  have hy := y.isLt
  rcases alu_cases op with rfl | rfl | rfl | rfl | rfl | rfl | rfl | rfl | rfl | rfl | rfl | rfl | rfl | hn
  · show (x.setWidth 64 + y.setWidth 64).setWidth 32 = x + y
    apply BitVec.eq_of_toNat_eq
    rw [BitVec.toNat_setWidth, BitVec.toNat_add, BitVec.toNat_add, ext_nat, ext_nat]; omega
  · show (x.setWidth 64 - y.setWidth 64).setWidth 32 = x - y
    apply BitVec.eq_of_toNat_eq
    rw [BitVec.toNat_setWidth, BitVec.toNat_sub, BitVec.toNat_sub, ext_nat, ext_nat]; omega
  · show (x.setWidth 64 * y.setWidth 64).setWidth 32 = x * y
    apply BitVec.eq_of_toNat_eq
    rw [BitVec.toNat_setWidth, BitVec.toNat_mul, BitVec.toNat_mul, ext_nat, ext_nat, Nat.mod_mod_of_dvd _ (Nat.pow_dvd_pow 2 (by decide))]
  · show (x.setWidth 64 / y.setWidth 64).setWidth 32 = x / y
    apply BitVec.eq_of_toNat_eq
    rw [BitVec.toNat_setWidth, BitVec.toNat_udiv, BitVec.toNat_udiv, ext_nat, ext_nat]
    exact Nat.mod_eq_of_lt (Nat.lt_of_le_of_lt (Nat.div_le_self x.toNat y.toNat) hx)
  · show (x.setWidth 64 % y.setWidth 64).setWidth 32 = x % y
    apply BitVec.eq_of_toNat_eq
    rw [BitVec.toNat_setWidth, BitVec.toNat_umod, BitVec.toNat_umod, ext_nat, ext_nat]
    have := Nat.mod_le x.toNat y.toNat
    omega
  · show (x.setWidth 64 ||| y.setWidth 64).setWidth 32 = x ||| y
    rw [BitVec.setWidth_or, low_back, low_back]
  · show (x.setWidth 64 &&& y.setWidth 64).setWidth 32 = x &&& y
    rw [BitVec.setWidth_and, low_back, low_back]
  · show (x.setWidth 64 ^^^ y.setWidth 64).setWidth 32 = x ^^^ y
    rw [BitVec.setWidth_xor, low_back, low_back]
  · exact absurd rfl h1
  · exact absurd rfl h2
  · exact absurd rfl h3
  · show (-(x.setWidth 64)).setWidth 32 = -x
    apply BitVec.eq_of_toNat_eq
    rw [BitVec.toNat_setWidth, BitVec.toNat_neg, BitVec.toNat_neg, ext_nat]; omega
  · exact low_back y
  · rw [aluW_none hn, aluW_none hn]; decide
theorem half_of (z : BitVec 32) : z.setWidth 64 &&& halfW = z.setWidth 64 := by rw [half_set, low_back]
theorem const_N (y : BitVec 64) : OkN (constI (N y)) := const_okT _
theorem ext_shift (x : BitVec 32) : ((x.setWidth 64) <<< 32).sshiftRight 32 = x.signExtend 64 := by
  apply BitVec.eq_of_getLsbD_eq
  intro i hi
  rw [BitVec.getLsbD_sshiftRight, BitVec.getLsbD_signExtend]
  have hm : ((x.setWidth 64) <<< 32).msb = x.msb := by
    rw [BitVec.msb_eq_getLsbD_last, BitVec.msb_eq_getLsbD_last]
    simp []
  by_cases h : i < 32
  · simp [hi, h, show 32 + i < 64 by omega, show ¬ 64 ≤ i by omega]
  · simp [hi, h, show ¬ 32 + i < 64 by omega, show ¬ 64 ≤ i by omega, hm]
theorem arsh_low (x : BitVec 32) (k : Nat) : ((x.signExtend 64).sshiftRight k).setWidth 32 = x.sshiftRight k := by
  apply BitVec.eq_of_getLsbD_eq
  intro i hi
  rw [BitVec.getLsbD_setWidth, BitVec.getLsbD_sshiftRight, BitVec.getLsbD_sshiftRight]
  have hm : (x.signExtend 64).msb = x.msb := by
    rw [BitVec.msb_eq_getLsbD_last, BitVec.getLsbD_signExtend]
    simp
  simp only [hi, decide_true, Bool.true_and, hm, show ¬ 64 ≤ i by omega, show ¬ 32 ≤ i by omega, decide_false, Bool.not_false]
  by_cases h : k + i < 32
  · rw [if_pos (by omega), if_pos h, BitVec.getLsbD_signExtend]
    simp [h, show k + i < 64 by omega]
  · rw [if_neg h]
    by_cases h2 : k + i < 64
    · rw [if_pos h2, BitVec.getLsbD_signExtend]
      simp [h, h2]
    · rw [if_neg h2]
theorem half_has {op : Int} {a b : NI} {x y : BitVec 32} (ha : HasN a (x.setWidth 64)) (hb : HasN b (y.setWidth 64)) (oa : OkN a) (ob : OkN b) (wa : nW a = true) (wb : nW b = true) :
    ∃ z, HasN (halfDoI op a b) z ∧ z &&& halfW = (aluW op x y).setWidth 64 := by
  have e31 : (y.setWidth 64 &&& 31#64).toNat = y.toNat % 32 := by rw [and31_lt, ext_nat]
  unfold halfDoI
  by_cases h3 : op = 192
  · subst h3
    rw [if_pos rfl]
    cases k : oneK b with
    | true =>
      have e1 := one_has k wb hb
      have e2 : cntI (oneI b) 31 = N (y.setWidth 64 &&& 31#64) := by rw [e1]; exact cnt_N _ _ 31 rfl (by rw [e31]; omega)
      simp only [if_true, e2]
      refine ⟨_, arsh_has' (c := y.setWidth 64 &&& 31#64) (by rw [e31]; omega) (show HasN (extI a) (x.signExtend 64) from ?_), ?_⟩
      · have h1 := arsh_has' (c := 32#64) (by decide) (lsh_has' (c := 32#64) (by decide) ha)
        rw [show (32#64 : BitVec 64).toNat = 32 from rfl, ext_shift] at h1
        exact h1
      · rw [half_set, arsh_low, e31]; rfl
    | false =>
      simp only [Bool.false_eq_true, if_false]
      exact ⟨(aluW 192 x y).setWidth 64, any_has' _, half_of _⟩
  · rw [if_neg h3]
    by_cases h1 : op = 96
    · subst h1
      rw [if_pos rfl]
      cases k : oneK b with
      | true =>
        have e1 := one_has k wb hb
        have e2 : andI (oneI b) 31 = N (y.setWidth 64 &&& 31#64) := by rw [e1]; exact and_N _ _ 31 rfl
        simp only [if_true, e2]
        refine ⟨_, do_has (op := 96) ha (const_has' (y.setWidth 64 &&& 31#64)) oa (const_N _) wa (nW_const (uB_N _)), ?_⟩
        rw [aluW_shift.1, e31, half_set]
        congr 1
        show ((x.setWidth 64) <<< (y.toNat % 32 % 64)).setWidth 32 = x <<< (y.toNat % 32)
        rw [Nat.mod_eq_of_lt (show y.toNat % 32 < 64 by omega)]
        apply BitVec.eq_of_getLsbD_eq
        intro i hi
        simp only [BitVec.getLsbD_setWidth, BitVec.getLsbD_shiftLeft, hi, decide_true, Bool.true_and, show i < 64 by omega]
        by_cases hk : i < y.toNat % 32
        · simp [hk]
        · simp [hk, show i - y.toNat % 32 < 64 by omega]
      | false =>
        simp only [Bool.false_eq_true, if_false]
        refine ⟨(aluW 96 x y).setWidth 64, ?_, half_of _⟩
        have : doI 96 a b = anyN := by
          show movedI 96 a b = anyN
          unfold movedI
          rw [if_neg (by rw [k]; decide), if_neg (by decide), if_neg (by decide)]
        rw [this]; exact any_has' _
    · rw [if_neg h1]
      by_cases h2 : op = 112
      · subst h2
        rw [if_pos rfl]
        cases k : oneK b with
        | true =>
          have e1 := one_has k wb hb
          have e2 : andI (oneI b) 31 = N (y.setWidth 64 &&& 31#64) := by rw [e1]; exact and_N _ _ 31 rfl
          simp only [if_true, e2]
          refine ⟨_, do_has (op := 112) ha (const_has' (y.setWidth 64 &&& 31#64)) oa (const_N _) wa (nW_const (uB_N _)), ?_⟩
          rw [aluW_shift.2.1, e31, half_set]
          congr 1
          show ((x.setWidth 64) >>> (y.toNat % 32 % 64)).setWidth 32 = x >>> (y.toNat % 32)
          rw [Nat.mod_eq_of_lt (show y.toNat % 32 < 64 by omega)]
          apply BitVec.eq_of_toNat_eq
          rw [BitVec.toNat_setWidth, BitVec.toNat_ushiftRight, BitVec.toNat_ushiftRight, ext_nat, Nat.shiftRight_eq_div_pow]
          exact Nat.mod_eq_of_lt (Nat.lt_of_le_of_lt (Nat.div_le_self x.toNat (2 ^ (y.toNat % 32))) x.isLt)
        | false =>
          simp only [Bool.false_eq_true, if_false]
          refine ⟨(aluW 112 x y).setWidth 64, ?_, half_of _⟩
          have : doI 112 a b = uptoI a.s.hi := by
            show movedI 112 a b = _
            unfold movedI
            rw [if_neg (by rw [k]; decide), if_pos rfl]
          rw [this]
          have wa' := wa
          unfold nW sW at wa'
          simp only [Bool.and_eq_true] at wa'
          refine upto_has' wa'.2.1.1.2 (Int.le_trans ?_ ha.2.2.1)
          unfold N
          rw [ext_nat, ext_nat]
          show (((x >>> (y.toNat % 32)).toNat : Nat) : Int) ≤ x.toNat
          rw [BitVec.toNat_ushiftRight, Nat.shiftRight_eq_div_pow]
          have := Nat.div_le_self x.toNat (2 ^ (y.toNat % 32))
          omega
      · rw [if_neg h2]
        exact ⟨_, do_has (op := op) ha hb oa ob wa wb, by rw [half_set, alu_low x y h1 h2 h3]⟩
theorem okT_low {a : NI} {v : BitVec 64} (h : HasN a v) : OkN (lowI a) := by
  unfold lowI settledI
  have hk : HasN ⟨tLowI a.t 32, sLowI a.s⟩ (v &&& halfW) := by
    refine ⟨?_, ?_⟩
    · show hasT (tB (tLowI a.t 32)).1 (tB (tLowI a.t 32)).2 _
      rw [tLowI, tB_tN]
      unfold tLow
      rw [if_neg (by omega), if_neg (by omega), show (1#64 <<< (32 : Int).toNat - 1#64 : BitVec 64) = halfW from by decide]
      exact has_low h.1 halfW
    · show SHas (sB (sLowI a.s)) _
      rw [sLowI, sB_sN]; exact Spn.low32R_has (settled_has h.2)
  rw [if_pos (tight_has' hk).1]
  exact tight_okT (tight_has' hk).1
theorem Do_has {op : Int} {wide : Bool} {a b : NI} {x y : BitVec 64} (ha : HasN a x) (hb : HasN b y) : HasN (DoI op wide a b) (aluS op wide x y) := by
  obtain ⟨ka, ta⟩ := tight_has' ha
  obtain ⟨kb, tb⟩ := tight_has' hb
  unfold DoI
  simp only [ka, kb, Bool.and_self, if_true]
  split
  · rename_i hc
    simp only [Bool.and_eq_true] at hc
    rw [one_has hc.1 (nW_tight a) ta, one_has hc.2 (nW_tight b) tb]
    unfold aluI
    rw [BN, BN]
    exact const_has' _
  · cases wide with
    | true =>
      rw [if_pos rfl]
      exact settled_has' (do_has ta tb (tight_okT ka) (tight_okT kb) (nW_tight a) (nW_tight b))
    | false =>
      rw [if_neg (by decide)]
      have la := low_has' ta
      have lb := low_has' tb
      rw [half_set] at la lb
      obtain ⟨z, hz, ez⟩ := half_has (op := op) la lb (okT_low ta) (okT_low tb) (nW_lowI _) (nW_lowI _)
      have := low_has' hz
      rw [ez] at this
      exact this
end Go.Proofs.YtchjneodjaakdaaGreat.Ex
end
section
namespace Go.Proofs.YtchjneodjaakdaaGreat
open Go.ChangeShapes Go.WideShapes Go.RowKit

inductive Kv where
  | i (k : IntKind)
  | b
  | s
  | l
def Kv.ok (W : World) : Kv → Value → Prop
  | .i k, v => ∃ n, v = .int k n ∧ (Lit.int k n).wf = true
  | .b, v => ∃ x, v = .bool x
  | .s, v => ∃ x : ByteArray, v = .string x ∧ (x.size : Int) ≤ IntKind.i64.max
  | .l, v => v = .slice none 0 0 ∨ ∃ b off len cap, v = .slice (some ⟨b, off, none⟩) len cap ∧ len ≤ cap ∧ (cap : Int) ≤ IntKind.i64.max ∧ b < W.heap.size
def okV (W : World) : List Kv → List Value → Prop
  | [], [] => True
  | k :: ks, v :: vs => k.ok W v ∧ okV W ks vs
  | _, _ => False
theorem okV.nil {W : World} {cs : List Value} (h : okV W [] cs) : cs = [] := by cases cs with | nil => rfl | cons _ _ => exact h.elim
theorem okV.cons {W : World} {k : Kv} {ks : List Kv} {cs : List Value} (h : okV W (k :: ks) cs) : ∃ v vs, cs = v :: vs ∧ k.ok W v ∧ okV W ks vs := by
  cases cs with
  | nil => exact h.elim
  | cons v vs => exact ⟨v, vs, rfl, h.1, h.2⟩
theorem okV.of_get {W : World} : ∀ {ks : List Kv} {cs : List Value}, cs.length = ks.length → (∀ (i : Nat) (k : Kv) (v : Value), ks[i]? = some k → cs[i]? = some v → k.ok W v) → okV W ks cs
  | [], [], _, _ => trivial
  | [], _ :: _, h, _ => by simp at h
  | _ :: _, [], h, _ => by simp at h
  | k :: ks, v :: vs, h, hg => ⟨hg 0 k v rfl rfl, okV.of_get (by simpa using h) fun i k' v' h1 h2 => hg (i + 1) k' v' (by simpa using h1) (by simpa using h2)⟩
def kvOf (P : Program) (u : TypeId) : Option Kv :=
  match P.underlying u with
  | some .bool => some .b
  | some (.int k) => some (.i k)
  | some .string => some .s
  | some (.slice _) => some .l
  | _ => none
def kvsL (P : Program) : List TypeId → Option (List Kv)
  | [] => some []
  | t :: ts =>
    match kvOf P t with
    | some k =>
      match kvsL P ts with
      | some ks => some (k :: ks)
      | none => none
    | none => none
def kvsT (P : Program) (t : TypeId) : Option (List Kv) :=
  match P.underlying t with
  | some (.struct _) | some (.array _ _) =>
    match P.cellTypes P.depth t with
    | some ts => if P.cellsOf t = ts.length then kvsL P ts else none
    | none => none
  | _ => none
section
variable {P : Program} {W : World} {base : Nat}
theorem wf_of_has {k : IntKind} {n : Int} (h : k.has n) : (Lit.int k n).wf = true := by
  obtain ⟨h1, h2⟩ := h
  simp [Lit.wf, h1, h2]
theorem kv_cell {u : TypeId} {k : Kv} (h : kvOf P u = some k) {v : Value} (hc : Cell.okWide P W .any base u v) : k.ok W v := by
  unfold kvOf at h
  split at h
  · rename_i hu
    cases h
    simp only [Cell.okWide, hu, Cell.ok] at hc
    cases v <;> first | exact ⟨_, rfl⟩ | exact hc.elim
  · rename_i k' hu
    cases h
    simp only [Cell.okWide, hu, Cell.ok] at hc
    cases v <;> first | exact hc.elim | skip
    rename_i k2 n
    obtain ⟨rfl, h2⟩ := hc
    exact ⟨n, rfl, wf_of_has h2⟩
  · rename_i hu
    cases h
    simp only [Cell.okWide, hu, Cell.ok] at hc
    cases v <;> first | exact hc.elim | exact ⟨_, rfl, hc⟩
  · rename_i e hu
    cases h
    simp only [Cell.okWide, hu, Cell.ok] at hc
    cases v <;> first | exact hc.elim | skip
    rename_i a l c
    cases a with
    | none =>
      left
      split at hc <;> simp_all
    | some a =>
      right
      obtain ⟨b, off, sp⟩ := a
      simp only [World.has] at hc
      obtain ⟨h1, h2, _, rfl, row, cells, hs, _⟩ := hc
      refine ⟨b, off, l, c, rfl, h1, h2, ?_⟩
      unfold World.shape? at hs
      split at hs
      · rename_i hh
        exact (Array.getElem?_eq_some_iff.1 hh).1
      · cases hs
  · cases h
theorem kvsL_get : ∀ {ts : List TypeId} {ks : List Kv}, kvsL P ts = some ks → ks.length = ts.length ∧ ∀ (i : Nat) (u : TypeId) (k : Kv), ts[i]? = some u → ks[i]? = some k → kvOf P u = some k
  | [], ks, h => by simp [kvsL] at h; subst h; exact ⟨rfl, fun i u k h => by simp at h⟩
  | t :: ts, ks, h => by
    simp only [kvsL] at h
    split at h
    · rename_i k hk
      split at h
      · rename_i ks' hks
        cases h
        obtain ⟨h1, h2⟩ := kvsL_get hks
        refine ⟨by simp [h1], fun i u k' hu hk' => ?_⟩
        cases i with
        | zero => simp at hu hk'; subst hu hk'; exact hk
        | succ i => exact h2 i u k' (by simpa using hu) (by simpa using hk')
      · cases h
    · cases h
theorem open_kv {t : TypeId} {ks : List Kv} (h : kvsT P t = some ks) {v : Value} (hv : Value.okWide P W .any base t v) : ∃ cs, v = .agg ⟨cs⟩ ∧ okV W ks cs := by
  unfold kvsT at h
  have key : ∀ {ts : List TypeId}, P.cellTypes P.depth t = some ts → P.cellsOf t = ts.length → kvsL P ts = some ks → (∃ cs, v = .agg cs ∧ cs.size = P.cellsOf t ∧ Row.okWide P W .any base t cs) → ∃ cs, v = .agg ⟨cs⟩ ∧ okV W ks cs := by
    rintro ts h1 h2 h3 ⟨⟨cs⟩, rfl, hn, us, hus, _, hc⟩
    rw [h1] at hus
    cases hus
    obtain ⟨g1, g2⟩ := kvsL_get h3
    refine ⟨cs, rfl, okV.of_get (by rw [g1, ← h2]; simpa using hn) fun i k x hk hx => ?_⟩
    obtain ⟨u, hu, hcu⟩ := hc i x (by simpa using hx)
    have hi : i < ts.length := by rw [← g1]; exact (List.getElem?_eq_some_iff.1 hk).1
    rw [Nat.mod_eq_of_lt hi] at hu
    exact kv_cell (g2 i u k hu hk) hcu
  split at h
  · rename_i hu
    split at h
    · rename_i ts hts
      split at h
      · rename_i hn
        exact key hts hn h (by simpa only [Value.okWide, hu] using hv)
      · cases h
    · cases h
  · rename_i hu
    split at h
    · rename_i ts hts
      split at h
      · rename_i hn
        exact key hts hn h (by simpa only [Value.okWide, hu] using hv)
      · cases h
    · cases h
  · cases h
theorem open_kv1 {t : TypeId} {k : Kv} (h : kvOf P t = some k) {v : Value} (hv : Value.okWide P W .any base t v) : k.ok W v := by
  refine kv_cell h (base := base) ?_
  unfold kvOf at h
  unfold Value.okWide at hv
  split at hv
  · rename_i hu; rw [hu] at h; cases h
  · rename_i hu; rw [hu] at h; cases h
  · exact hv
variable {H : Type} {enc : TypeId × Value → H}
theorem trodAll_stays (hl : laidOutB P = true) {W' : World} {sp' : Nat → Bool} : ∀ {ts : List TypeId} {vs : List Value} {ds : List (DataW H)} {ps : List MemPlace}, (ts.all fun t => P.readableRec t && decide (t < P.types.size)) = true →
    DataW.TrodAll enc P W base (fun _ => true) true ts vs ds ps → (∀ p ∈ ps, W.sameAt W' p) → (∀ p ∈ ps, sp' p.block = true) → DataW.TrodAll enc P W' base sp' true ts vs ds ps
  | [], vs, ds, ps, _, h, _, _ => by
    cases vs with
    | nil => cases ds with
      | nil => exact h
      | cons _ _ => exact h.elim
    | cons _ _ => exact h.elim
  | t :: ts, vs, ds, ps, hr, h, hs, hsp => by
    obtain ⟨v, vs', d, ds', p, q, rfl, rfl, rfl, h1, h2⟩ := trodAll_cons h
    simp only [List.all_cons, Bool.and_eq_true, decide_eq_true_eq] at hr
    exact ⟨p, q, Go.WideElems.Trod_stays hl hr.1.1 hr.1.2 h1 (fun x hx => hs x (List.mem_append_left _ hx)) (fun x hx => hsp x (List.mem_append_left _ hx)),
      trodAll_stays hl hr.2 h2 (fun x hx => hs x (List.mem_append_right _ hx)) (fun x hx => hsp x (List.mem_append_right _ hx)), rfl⟩
theorem sameAt_of_gr {W W' : World} (h : Ex.Gr W W') {p : MemPlace} (hp : p.block < W.heap.size) : W.sameAt W' p := by
  cases p with
  | cell b off => exact Ex.gr_cell h (a := ⟨b, off, none⟩) hp
  | map b => exact h.2.1 b hp
end
end Go.Proofs.YtchjneodjaakdaaGreat
end
section
namespace Go.Proofs.YtchjneodjaakdaaGreat.Ex
open Go Go.RowKit
open Go.Proofs.YtchjneodjaakdaaGreat.Sc (firstV firstOk lastV lastOk)
open Go.Proofs.YtchjneodjaakdaaGreat.Spn (Sp SHas umin N_umin two_forms)
def rT (t : TI) (v : Int) : Bool := hasTB (tB t).1 (tB t).2 (B v)
def rS (s : SI) (v : Int) : Bool := hasB (sB s) (B v)
def hk_r15 : Hook := fun f args _ =>
  if Nat.beq f 50 then
    match args with
    | [.int .u64 a, .int .u64 b, .int .u64 c] => some (.bool (rT ⟨a, b⟩ c), [(b2i (tW ⟨a, b⟩ && uB c), 1)])
    | _ => none
  else none
theorem hk_r15_ok : HookOk Tryz.prog hk_r15 := by
  intro f args h v cs hv hc wb k s w H
  unfold hk_r15 at hv
  split at hv
  · rename_i hf
    obtain rfl := Nat.eq_of_beq_eq_true hf
    split at hv
    · rename_i a b c
      cases hv
      have hw := pair1 hc rfl
      simp only [Bool.and_eq_true] at hw
      obtain ⟨x, y, rfl, rfl⟩ := tW_eq2 hw.1
      obtain ⟨z, rfl⟩ := uB_eq hw.2
      simp only [rT, tB, B, ofInt_N]
      exact (refHas_any x y z w).mono fun e w' h => ⟨h.1, Gr.of_grown h.2⟩
    · cases hv
  · cases hv
def hk_r16 : Hook := fun f args _ =>
  if Nat.beq f 51 then
    match args with
    | [.int .u64 a, .int .u64 b, .int .i64 c, .int .i64 d, .int .u64 v] => some (.bool (rS ⟨a, b, c, d⟩ v), [(b2i (sW ⟨a, b, c, d⟩ && uB v), 1)])
    | _ => none
  else none
theorem hk_r16_ok : HookOk Tryz.prog hk_r16 := by
  intro f args h v cs hv hc wb k s w H
  unfold hk_r16 at hv
  split at hv
  · rename_i hf
    obtain rfl := Nat.eq_of_beq_eq_true hf
    split at hv
    · rename_i a b c d v
      cases hv
      have hw := pair1 hc rfl
      simp only [Bool.and_eq_true] at hw
      obtain ⟨x, y, z, u, rfl, rfl, rfl, rfl⟩ := sW_eq4 hw.1
      obtain ⟨t, rfl⟩ := uB_eq hw.2
      simp only [rS, sB, B, ofInt_N, ofInt_Z64]
      exact (ref_has x y z u t w).mono fun e w' h => ⟨h.1, Gr.of_grown h.2⟩
    · cases hv
  · cases hv
def hk_r05 : Hook := fun f args _ =>
  if Nat.beq f 11 then
    match args with
    | [.int .u8 x, .bool wide, .int .u64 a, .int .u64 b] => some (.int .u64 (aluI x wide a b), [(b2i (uB a && uB b), 1)])
    | _ => none
  else none
theorem hk_r05_ok : HookOk Tryz.prog hk_r05 := by
  intro f args h v cs hv hc wb k s w H
  unfold hk_r05 at hv
  split at hv
  · rename_i hf
    obtain rfl := Nat.eq_of_beq_eq_true hf
    split at hv
    · rename_i x wide a b
      cases hv
      have hw := pair1 hc rfl
      simp only [Bool.and_eq_true] at hw
      obtain ⟨va, rfl⟩ := uB_eq hw.1
      obtain ⟨vb, rfl⟩ := uB_eq hw.2
      simp only [aluI, B, ofInt_N]
      exact (refDo_any x wide va vb w).mono fun e w' h => ⟨h.1, h.2 ▸ Gr.refl _⟩
    · cases hv
  · cases hv
def hkR : Hook := orHook hk_r15 (orHook hk_r16 (orHook hk_r05 (hkBase)))
theorem hkR_ok : HookOk Tryz.prog hkR := orHook_ok hk_r15_ok (orHook_ok hk_r16_ok (orHook_ok hk_r05_ok (hkBase_ok)))
def rHasOrc (b : Bool) : Orc := fun f t _ => if Nat.beq f 22 && Nat.beq t 15 then some (.bool b) else none
set_option maxHeartbeats 0 in
set_option maxRecDepth 1000000 in
theorem rhas_0_r (a : NI) (v : Int) (he : ([(b2i (tW a.t && uB v), 1), (b2i (rT a.t v), 0)] : Cs).map (·.1) = ([(b2i (tW a.t && uB v), 1), (b2i (rT a.t v), 0)] : Cs).map (·.2)) (w : World) : Calls Tryz.prog 9 #[VN a, .int .u64 v] w fun e w' => e = .returned (.bool false) ∧ Gr w w' :=
  rk hkR_ok (rHasOrc false) (cs := ([(b2i (tW a.t && uB v), 1), (b2i (rT a.t v), 0)] : Cs)) rfl (by kernel_rfl) (by kernel_rfl) he w
theorem rhas_0 (a : NI) (v : Int) (h1 : (tW a.t && uB v) = true) (k : rT a.t v = false) (w : World) : Calls Tryz.prog 9 #[VN a, .int .u64 v] w fun e w' => e = .returned (.bool false) ∧ Gr w w' :=
  rhas_0_r a v (by rw [h1, k]; rfl) w
set_option maxHeartbeats 0 in
set_option maxRecDepth 1000000 in
theorem rhas_1_r (a : NI) (v : Int) (he : ([(b2i (tW a.t && uB v), 1), (b2i (rT a.t v), 1), (b2i (sW a.s && uB v), 1)] : Cs).map (·.1) = ([(b2i (tW a.t && uB v), 1), (b2i (rT a.t v), 1), (b2i (sW a.s && uB v), 1)] : Cs).map (·.2)) (w : World) : Calls Tryz.prog 9 #[VN a, .int .u64 v] w fun e w' => e = .returned (.bool (rS a.s v)) ∧ Gr w w' :=
  rk hkR_ok (rHasOrc true) (cs := ([(b2i (tW a.t && uB v), 1), (b2i (rT a.t v), 1), (b2i (sW a.s && uB v), 1)] : Cs)) rfl (by kernel_rfl) (by kernel_rfl) he w
theorem rhas_1 (a : NI) (v : Int) (h1 : (tW a.t && uB v) = true) (h2 : (sW a.s && uB v) = true) (k : rT a.t v = true) (w : World) : Calls Tryz.prog 9 #[VN a, .int .u64 v] w fun e w' => e = .returned (.bool (rS a.s v)) ∧ Gr w w' :=
  rhas_1_r a v (by rw [h1, k, h2]; rfl) w
def rHasI (a : NI) (v : Int) : Bool := rT a.t v && rS a.s v
theorem c_rhas (a : NI) (v : Int) (hw : (nW a && uB v) = true) (w : World) : Calls Tryz.prog 9 #[VN a, .int .u64 v] w fun e w' => e = .returned (.bool (rHasI a v)) ∧ Gr w w' := by
  unfold nW at hw
  simp only [Bool.and_eq_true] at hw
  have h1 : (tW a.t && uB v) = true := by rw [hw.1.1, hw.2]; rfl
  have h2 : (sW a.s && uB v) = true := by rw [hw.1.2, hw.2]; rfl
  cases k : rT a.t v with
  | true => exact ret_eq (by simp only [rHasI, k]; rfl) (rhas_1 a v h1 h2 k w)
  | false => exact ret_eq (by simp only [rHasI, k]; rfl) (rhas_0 a v h1 k w)
theorem rHas_iff (a : NI) (v : BitVec 64) : rHasI a (N v) = true ↔ HasN a v := by
  unfold rHasI rT rS HasN
  rw [Bool.and_eq_true, BN, hasTB_iff, hasB_iff]
theorem c_rhasT (a : NI) (v : Int) (hw : (nW a && (uB v && rHasI a v)) = true) (w : World) : Calls Tryz.prog 9 #[VN a, .int .u64 v] w fun e w' => e = .returned (.bool true) ∧ Gr w w' := by
  simp only [Bool.and_eq_true] at hw
  exact ret_eq (by rw [hw.2.2]) (c_rhas a v (by rw [hw.1, hw.2.1]; rfl) w)
def hk_rhas : Hook := fun f args _ =>
  if Nat.beq f 9 then
    match args with
    | [.agg ⟨[.int .u64 a0, .int .u64 a1, .int .u64 a2, .int .u64 a3, .int .i64 a4, .int .i64 a5]⟩, .int .u64 b] => some (.bool (rHasI (⟨⟨a0, a1⟩, ⟨a2, a3, a4, a5⟩⟩ : NI) b), [(b2i (nW (⟨⟨a0, a1⟩, ⟨a2, a3, a4, a5⟩⟩ : NI) && uB b), 1)])
    | _ => none
  else none
theorem hk_rhas_ok : HookOk Tryz.prog hk_rhas := by
  intro f args h v cs hv hc wb k s w H
  unfold hk_rhas at hv
  split at hv
  · rename_i hf
    obtain rfl := Nat.eq_of_beq_eq_true hf
    split at hv
    · rename_i a0 a1 a2 a3 a4 a5 b
      cases hv
      have hw := pair1 hc rfl
      exact c_rhas (⟨⟨a0, a1⟩, ⟨a2, a3, a4, a5⟩⟩ : NI) b hw w
    · cases hv
  · cases hv
def hk_rhasT : Hook := fun f args _ =>
  if Nat.beq f 9 then
    match args with
    | [.agg ⟨[.int .u64 a0, .int .u64 a1, .int .u64 a2, .int .u64 a3, .int .i64 a4, .int .i64 a5]⟩, .int .u64 b] => some (.bool true, [(b2i (nW (⟨⟨a0, a1⟩, ⟨a2, a3, a4, a5⟩⟩ : NI) && (uB b && rHasI (⟨⟨a0, a1⟩, ⟨a2, a3, a4, a5⟩⟩ : NI) b)), 1)])
    | _ => none
  else none
theorem hk_rhasT_ok : HookOk Tryz.prog hk_rhasT := by
  intro f args h v cs hv hc wb k s w H
  unfold hk_rhasT at hv
  split at hv
  · rename_i hf
    obtain rfl := Nat.eq_of_beq_eq_true hf
    split at hv
    · rename_i a0 a1 a2 a3 a4 a5 b
      cases hv
      have hw := pair1 hc rfl
      exact c_rhasT (⟨⟨a0, a1⟩, ⟨a2, a3, a4, a5⟩⟩ : NI) b hw w
    · cases hv
  · cases hv
def min2 (x y : Int) : Int := if y < x then y else x
def sub64 (x y : Int) : Int := IntKind.u64.wrap (x - y)
def madeI (v : Int) (by0 by1 by2 by3 by4 : Int) : NI :=
  ⟨⟨IntKind.u64.wrap (BitVec.ofInt IntKind.u64.bits v &&& ~~~BitVec.ofInt IntKind.u64.bits by0).toNat, by0⟩,
   ⟨sub64 v (min2 v by1), IntKind.u64.wrap (v + min2 (IntKind.u64.wrap (BitVec.ofInt IntKind.u64.bits 18446744073709551615 ^^^ BitVec.ofInt IntKind.u64.bits v).toNat) by2),
    IntKind.i64.wrap (IntKind.i64.wrap v - IntKind.i64.wrap (min2 (min2 (sub64 v 9223372036854775808) by3) 9223372036854775807)),
    IntKind.i64.wrap (IntKind.i64.wrap v + IntKind.i64.wrap (min2 (min2 (sub64 9223372036854775807 v) by4) 9223372036854775807))⟩⟩
set_option maxHeartbeats 0 in
set_option maxRecDepth 1000000 in
theorem c_made_r (v b0 b1 b2 b3 b4 : Int) (he : ([] : Cs).map (·.1) = ([] : Cs).map (·.2)) (w : World) : Calls Tryz.prog 8 #[.int .u64 v, .agg ⟨[.int .u64 b0, .int .u64 b1, .int .u64 b2, .int .u64 b3, .int .u64 b4]⟩] w fun e w' => e = .returned (VN (madeI v b0 b1 b2 b3 b4)) ∧ Gr w w' :=
  rk hkBase_ok noOrc (cs := ([] : Cs)) rfl (by kernel_rfl) (by kernel_rfl) he w
theorem c_made (v b0 b1 b2 b3 b4 : Int) (w : World) : Calls Tryz.prog 8 #[.int .u64 v, .agg ⟨[.int .u64 b0, .int .u64 b1, .int .u64 b2, .int .u64 b3, .int .u64 b4]⟩] w fun e w' => e = .returned (VN (madeI v b0 b1 b2 b3 b4)) ∧ Gr w w' :=
  c_made_r v b0 b1 b2 b3 b4 (by rfl) w
def hk_made : Hook := fun f args _ =>
  if Nat.beq f 8 then
    match args with
    | [.int .u64 v, .agg ⟨[.int .u64 b0, .int .u64 b1, .int .u64 b2, .int .u64 b3, .int .u64 b4]⟩] => some (VN (madeI v b0 b1 b2 b3 b4), [])
    | _ => none
  else none
theorem hk_made_ok : HookOk Tryz.prog hk_made := by
  intro f args h v cs hv hc wb k s w H
  unfold hk_made at hv
  split at hv
  · rename_i hf
    obtain rfl := Nat.eq_of_beq_eq_true hf
    split at hv
    · rename_i v b0 b1 b2 b3 b4
      cases hv
      exact c_made v b0 b1 b2 b3 b4 w
    · cases hv
  · cases hv
theorem nW_made {v b0 b1 b2 b3 b4 : Int} (h : uB b0 = true) : nW (madeI v b0 b1 b2 b3 b4) = true := by
  unfold nW tW sW madeI sub64
  simp only [u64_uB, i64_zB, h, Bool.and_self]
theorem min2_N (x y : BitVec 64) : min2 (N x) (N y) = N (umin x y) := by
  unfold min2 umin
  split <;> rfl
theorem made_has' (v b0 b1 b2 b3 b4 : BitVec 64) : HasN (madeI (N v) (N b0) (N b1) (N b2) (N b3) (N b4)) v ∧ OkN (madeI (N v) (N b0) (N b1) (N b2) (N b3) (N b4)) := by
  have e0 : tB (madeI (N v) (N b0) (N b1) (N b2) (N b3) (N b4)).t = (v &&& ~~~b0, b0) := by
    show (B (IntKind.u64.wrap ((B (N v) &&& ~~~B (N b0)).toNat : Int)), B (N b0)) = _
    rw [B_u64, BN, BN]
    show (BitVec.ofInt 64 ((v &&& ~~~b0).toNat : Int), b0) = _
    rw [BitVec.ofInt_natCast, BitVec.ofNat_toNat, BitVec.setWidth_eq]
  have e1 : sB (madeI (N v) (N b0) (N b1) (N b2) (N b3) (N b4)).s = madeS v b1 b2 b3 b4 := by
    unfold madeS downW upW
    show (⟨B (IntKind.u64.wrap (N v - min2 (N v) (N b1))), B (IntKind.u64.wrap (N v + min2 (IntKind.u64.wrap ((B 18446744073709551615 ^^^ B (N v)).toNat : Int)) (N b2))),
      B (IntKind.i64.wrap (IntKind.i64.wrap (N v) - IntKind.i64.wrap (min2 (min2 (IntKind.u64.wrap (N v - 9223372036854775808)) (N b3)) 9223372036854775807))),
      B (IntKind.i64.wrap (IntKind.i64.wrap (N v) + IntKind.i64.wrap (min2 (min2 (IntKind.u64.wrap (9223372036854775807 - N v)) (N b4)) 9223372036854775807)))⟩ : Sp) = _
    have x1 : IntKind.u64.wrap ((B 18446744073709551615 ^^^ B (N v)).toNat : Int) = N (~~~v) := by
      rw [BN v, u64_wrap, BitVec.ofInt_natCast, BitVec.ofNat_toNat, BitVec.setWidth_eq]
      rw [show B 18446744073709551615 = BitVec.allOnes 64 from by decide, BitVec.allOnes_xor]
    have x2 : IntKind.u64.wrap (N v - 9223372036854775808) = N (v - 9223372036854775808#64) := by
      rw [u64_wrap, ofInt_sub', ofInt_N]; rfl
    have x3 : IntKind.u64.wrap (9223372036854775807 - N v) = N (BitVec.ofInt 64 (9223372036854775807 - N v)) := u64_wrap _
    have x4 : (9223372036854775807 : Int) = N (9223372036854775807#64) := by decide
    rw [x1, x2, x3, B_u64, B_u64, B_i64, B_i64]
    have y1 : ∀ z : BitVec 64, min2 (N z) 9223372036854775807 = N (umin z 9223372036854775807#64) := fun z => by
      have h := min2_N z (9223372036854775807#64)
      rwa [← x4] at h
    rw [min2_N, min2_N, min2_N, min2_N, y1, y1]
    unfold B
    simp only [BitVec.ofInt_add, ofInt_sub', ofInt_N, i64_wrap_N, ofInt_Z64]
  refine ⟨⟨?_, ?_⟩, ?_⟩
  · rw [e0]; exact (rfl : v &&& ~~~b0 = v &&& ~~~b0)
  · rw [e1]; exact made_has v b1 b2 b3 b4
  · unfold OkN; rw [e0]; exact ok_made v b0
theorem wf_N {n : Int} (h : (Lit.int .u64 n).wf = true) : ∃ y : BitVec 64, n = N y := by
  have h1 := bounds_u64 h
  exact ⟨BitVec.ofInt 64 n, (N_ofInt n h1.1 (by have := h1.2; omega)).symm⟩
theorem wf_Z {n : Int} (h : (Lit.int .i64 n).wf = true) : ∃ y : BitVec 64, n = Z y := by
  have h1 := bounds_i64 h
  exact zB_eq (decide_eq_true ⟨h1.1, h1.2⟩)
def hkLT : Hook := orHook hk_made (orHook hk_rhasT (orHook hk_r05 (orHook hk_Do (hk9))))
theorem hkLT_ok : HookOk Tryz.prog hkLT := orHook_ok hk_made_ok (orHook_ok hk_rhasT_ok (orHook_ok hk_r05_ok (orHook_ok hk_Do_ok (hk9_ok))))
def hkL : Hook := orHook hk_made (orHook hk_rhas (orHook hk_r05 (orHook hk_Do (orHook hk_in (orHook hk_has (hk9))))))
theorem hkL_ok : HookOk Tryz.prog hkL := orHook_ok hk_made_ok (orHook_ok hk_rhas_ok (orHook_ok hk_r05_ok (orHook_ok hk_Do_ok (orHook_ok hk_in_ok (orHook_ok hk_has_ok (hk9_ok))))))
set_option maxHeartbeats 0 in
set_option maxRecDepth 1000000 in
theorem sums_any (w : World) : Calls Tryz.prog 12 #[] w fun e w' => e = .returned (.bool true) ∧ Gr w w' :=
  reckonG_ok noNG hk10_ok 100000 300 [] rfl rfl (by kernel_rfl) w (Laid.nil w)
def hk_sums : Hook := memoHook [] 12 [([], .bool true)]
theorem hk_sums_ok : HookOk Tryz.prog hk_sums := memoHook_ok rfl ⟨fun w _ => sums_any w, trivial⟩
end Go.Proofs.YtchjneodjaakdaaGreat.Ex
end
section
namespace Go.Proofs.YtchjneodjaakdaaGreat.Ex
open Go Go.RowKit
open Go.Proofs.YtchjneodjaakdaaGreat.Sc (firstV firstOk lastV lastOk)
def hkD : Hook := orHook hk_sums (hkLT)
theorem hkD_ok : HookOk Tryz.prog hkD := orHook_ok hk_sums_ok (hkLT_ok)
def sdCs (op v0 v1 a0 a1 a2 a3 a4 b0 b1 b2 b3 b4 : Int) : Cs := ([(b2i (nW (madeI v0 a0 a1 a2 a3 a4) && (uB v0 && rHasI (madeI v0 a0 a1 a2 a3 a4) v0)), 1), (b2i (nW (madeI v0 a0 a1 a2 a3 a4) && nW (madeI v1 b0 b1 b2 b3 b4)), 1), (b2i (uB v0 && uB v1), 1), (b2i (nW (DoI (IntKind.u8.wrap (BitVec.ofInt IntKind.u8.bits op &&& BitVec.ofInt IntKind.u8.bits 240).toNat) true (madeI v0 a0 a1 a2 a3 a4) (madeI v1 b0 b1 b2 b3 b4)) && (uB (aluI (IntKind.u8.wrap (BitVec.ofInt IntKind.u8.bits op &&& BitVec.ofInt IntKind.u8.bits 240).toNat) true v0 v1) && rHasI (DoI (IntKind.u8.wrap (BitVec.ofInt IntKind.u8.bits op &&& BitVec.ofInt IntKind.u8.bits 240).toNat) true (madeI v0 a0 a1 a2 a3 a4) (madeI v1 b0 b1 b2 b3 b4)) (aluI (IntKind.u8.wrap (BitVec.ofInt IntKind.u8.bits op &&& BitVec.ofInt IntKind.u8.bits 240).toNat) true v0 v1))), 1), (b2i (nW (madeI v0 a0 a1 a2 a3 a4) && nW (madeI v1 b0 b1 b2 b3 b4)), 1), (b2i (uB v0 && uB v1), 1), (b2i (nW (DoI op true (madeI v0 a0 a1 a2 a3 a4) (madeI v1 b0 b1 b2 b3 b4)) && (uB (aluI op true v0 v1) && rHasI (DoI op true (madeI v0 a0 a1 a2 a3 a4) (madeI v1 b0 b1 b2 b3 b4)) (aluI op true v0 v1))), 1), (b2i (nW (madeI v0 a0 a1 a2 a3 a4) && (uB v0 && rHasI (madeI v0 a0 a1 a2 a3 a4) v0)), 1), (b2i (nW (madeI v0 a0 a1 a2 a3 a4) && nW (madeI v1 b0 b1 b2 b3 b4)), 1), (b2i (uB v0 && uB v1), 1), (b2i (nW (DoI (IntKind.u8.wrap (BitVec.ofInt IntKind.u8.bits op &&& BitVec.ofInt IntKind.u8.bits 240).toNat) false (madeI v0 a0 a1 a2 a3 a4) (madeI v1 b0 b1 b2 b3 b4)) && (uB (aluI (IntKind.u8.wrap (BitVec.ofInt IntKind.u8.bits op &&& BitVec.ofInt IntKind.u8.bits 240).toNat) false v0 v1) && rHasI (DoI (IntKind.u8.wrap (BitVec.ofInt IntKind.u8.bits op &&& BitVec.ofInt IntKind.u8.bits 240).toNat) false (madeI v0 a0 a1 a2 a3 a4) (madeI v1 b0 b1 b2 b3 b4)) (aluI (IntKind.u8.wrap (BitVec.ofInt IntKind.u8.bits op &&& BitVec.ofInt IntKind.u8.bits 240).toNat) false v0 v1))), 1), (b2i (nW (madeI v0 a0 a1 a2 a3 a4) && nW (madeI v1 b0 b1 b2 b3 b4)), 1), (b2i (uB v0 && uB v1), 1), (b2i (nW (DoI op false (madeI v0 a0 a1 a2 a3 a4) (madeI v1 b0 b1 b2 b3 b4)) && (uB (aluI op false v0 v1) && rHasI (DoI op false (madeI v0 a0 a1 a2 a3 a4) (madeI v1 b0 b1 b2 b3 b4)) (aluI op false v0 v1))), 1)] : Cs)
set_option maxHeartbeats 0 in
set_option maxRecDepth 1000000 in
theorem sd_run (op v0 v1 a0 a1 a2 a3 a4 b0 b1 b2 b3 b4 : Int) (he : (sdCs op v0 v1 a0 a1 a2 a3 a4 b0 b1 b2 b3 b4).map (·.1) = (sdCs op v0 v1 a0 a1 a2 a3 a4 b0 b1 b2 b3 b4).map (·.2)) (w : World) : Calls Tryz.prog 3 #[.int .u8 op, .agg ⟨[.int .u64 v0, .int .u64 v1]⟩, .agg ⟨[.int .u64 a0, .int .u64 a1, .int .u64 a2, .int .u64 a3, .int .u64 a4, .int .u64 b0, .int .u64 b1, .int .u64 b2, .int .u64 b3, .int .u64 b4]⟩] w fun e w' => e = .returned (.bool true) ∧ Gr w w' :=
  rk hkD_ok noOrc (cs := sdCs op v0 v1 a0 a1 a2 a3 a4 b0 b1 b2 b3 b4) rfl (by kernel_rfl) (by kernel_rfl) he w
set_option maxRecDepth 1000000 in
theorem sd_walk (op : Int) (v0 v1 a0 a1 a2 a3 a4 b0 b1 b2 b3 b4 : BitVec 64) (w : World) : Calls Tryz.prog 3 #[.int .u8 op, .agg ⟨[.int .u64 (N v0), .int .u64 (N v1)]⟩, .agg ⟨[.int .u64 (N a0), .int .u64 (N a1), .int .u64 (N a2), .int .u64 (N a3), .int .u64 (N a4), .int .u64 (N b0), .int .u64 (N b1), .int .u64 (N b2), .int .u64 (N b3), .int .u64 (N b4)]⟩] w fun e w' => e = .returned (.bool true) ∧ Gr w w' := by
  refine sd_run op (N v0) (N v1) (N a0) (N a1) (N a2) (N a3) (N a4) (N b0) (N b1) (N b2) (N b3) (N b4) ?_ w
  obtain ⟨hA, _⟩ := made_has' v0 a0 a1 a2 a3 a4
  obtain ⟨hB, _⟩ := made_has' v1 b0 b1 b2 b3 b4
  have wA : nW (madeI (N v0) (N a0) (N a1) (N a2) (N a3) (N a4)) = true := nW_made (uB_N a0)
  have wB : nW (madeI (N v1) (N b0) (N b1) (N b2) (N b3) (N b4)) = true := nW_made (uB_N b0)
  have rA := (rHas_iff _ _).2 hA
  unfold sdCs
  generalize madeI (N v0) (N a0) (N a1) (N a2) (N a3) (N a4) = A at *
  generalize madeI (N v1) (N b0) (N b1) (N b2) (N b3) (N b4) = Bn at *
  have D : ∀ (x : Int) (wd : Bool), rHasI (DoI x wd A Bn) (aluI x wd (N v0) (N v1)) = true := fun x wd => by
    unfold aluI
    rw [BN, BN]
    exact (rHas_iff _ _).2 (Do_has hA hB)
  have h1 : (nW A && (uB (N v0) && rHasI A (N v0))) = true := by rw [wA, uB_N, rA]; rfl
  have h2 : (nW A && nW Bn) = true := by rw [wA, wB]; rfl
  have h3 : (uB (N v0) && uB (N v1)) = true := by rw [uB_N, uB_N]; rfl
  have h4 : ∀ (x : Int) (wd : Bool), (nW (DoI x wd A Bn) && (uB (aluI x wd (N v0) (N v1)) && rHasI (DoI x wd A Bn) (aluI x wd (N v0) (N v1)))) = true := fun x wd => by rw [nW_Do, uB_alu, D]; rfl
  rw [h1, h2, h3, h4 _ true, h4 op true, h4 _ false, h4 op false]
  rfl
theorem sd_law (op : Int) (v0 v1 a0 a1 a2 a3 a4 b0 b1 b2 b3 b4 : Int) (w0 : (Lit.int .u64 v0).wf = true) (w1 : (Lit.int .u64 v1).wf = true) (x0 : (Lit.int .u64 a0).wf = true) (x1 : (Lit.int .u64 a1).wf = true) (x2 : (Lit.int .u64 a2).wf = true) (x3 : (Lit.int .u64 a3).wf = true) (x4 : (Lit.int .u64 a4).wf = true) (y0 : (Lit.int .u64 b0).wf = true) (y1 : (Lit.int .u64 b1).wf = true) (y2 : (Lit.int .u64 b2).wf = true) (y3 : (Lit.int .u64 b3).wf = true) (y4 : (Lit.int .u64 b4).wf = true) (w : World) :
    Calls Tryz.prog 3 #[.int .u8 op, .agg ⟨[.int .u64 v0, .int .u64 v1]⟩, .agg ⟨[.int .u64 a0, .int .u64 a1, .int .u64 a2, .int .u64 a3, .int .u64 a4, .int .u64 b0, .int .u64 b1, .int .u64 b2, .int .u64 b3, .int .u64 b4]⟩] w fun e w' => e = .returned (.bool true) ∧ Gr w w' := by
  obtain ⟨v0, rfl⟩ := wf_N w0
  obtain ⟨v1, rfl⟩ := wf_N w1
  obtain ⟨a0, rfl⟩ := wf_N x0
  obtain ⟨a1, rfl⟩ := wf_N x1
  obtain ⟨a2, rfl⟩ := wf_N x2
  obtain ⟨a3, rfl⟩ := wf_N x3
  obtain ⟨a4, rfl⟩ := wf_N x4
  obtain ⟨b0, rfl⟩ := wf_N y0
  obtain ⟨b1, rfl⟩ := wf_N y1
  obtain ⟨b2, rfl⟩ := wf_N y2
  obtain ⟨b3, rfl⟩ := wf_N y3
  obtain ⟨b4, rfl⟩ := wf_N y4
  exact sd_walk op v0 v1 a0 a1 a2 a3 a4 b0 b1 b2 b3 b4 w
end Go.Proofs.YtchjneodjaakdaaGreat.Ex
end
section
namespace Go.Proofs.YtchjneodjaakdaaGreat.Ex
open Go Go.RowKit Go.WideShapes Go.ChangeShapes

theorem gr_frame {W W' : World} (h : Gr W W') (may : MemPlace → Prop) : W.keptBut W' may := by
  refine ⟨h.1.1, h.1.2, fun i hi => ?_⟩
  rw [h.2.1 i hi]
  split <;> simp_all
section
variable {H : Type} {enc : TypeId × Value → H} {P : Program}
theorem post_of_gr {f : Func} {s : ChangeSpec} {apart fresh handsOn again : Bool} {W W' : World} {args : Array Value} {v : Value} {ds gs : List (DataW H)} {before pa pv : List MemPlace}
    (hW : DataW.Whole enc P f.params.toList s.vars apart W args.toList ds gs before)
    (hres : ∀ (b : Nat) (sp : Nat → Bool) (hd : Bool), DataW.TrodAll enc P W' b sp hd f.resultTypes.toList (v.resultList f.resultTypes.size) (s.fn H (ds ++ gs)).results [])
    (hargs : ∀ sp : Nat → Bool, (∀ p ∈ before, sp p.block = true) → DataW.TrodAll enc P W' 0 sp true f.params.toList args.toList (s.fn H (ds ++ gs)).args pa)
    (hvars : ∀ sp : Nat → Bool, (∀ p ∈ before, sp p.block = true) → DataW.TrodVars enc P W' sp s.vars (s.fn H (ds ++ gs)).vars pv)
    (hps : before = pa ++ pv) (hg : Gr W W')
    (hok : ∀ (j : Nat) (t : TypeId) (r : Value), f.resultTypes[j]? = some t → (v.resultList f.resultTypes.size)[j]? = some r → Value.okWide P W' .any 0 t r) :
    s.post enc P f apart fresh handsOn again W args v W' := by
  have hlt : ∀ p ∈ before, p.block < W.heap.size := fun p hp => hW.lt p hp
  have hold : ∀ p ∈ before, (fun b => decide (b < W.heap.size)) p.block = true := fun p hp => by simpa using hlt p hp
  refine ⟨ds, gs, before, [], pa, pv, hW, hres _ _ _, hargs _ hold, hvars _ hold, World.keptBut_mono (fun p hp => ⟨hp, ?_⟩) (gr_frame hg (· ∈ before)), fun _ => ?_⟩
  · rw [hps, List.mem_append] at hp
    exact Or.inr hp
  · obtain ⟨_, _, _, _, _, hz, hn⟩ := hW
    refine ⟨hok, _, _, ([] ++ pa) ++ pv, ⟨[] ++ pa, pv, trodAll_append (hargs _ (fun _ _ => rfl)) (hres _ _ _), hvars _ (fun _ _ => rfl), rfl, ?_, ?_⟩, ?_⟩
    · intro b off hp
      have hin : MemPlace.cell b off ∈ before := by rw [hps]; simpa using hp
      rw [gr_frozen hg (hlt _ hin)]
      exact hz b off hin
    · intro ha
      have := hn ha
      rw [hps] at this
      simpa using this
    · intro p hp _
      rw [hps]
      simpa using hp
end
end Go.Proofs.YtchjneodjaakdaaGreat.Ex
end
section
namespace Go.Proofs.YtchjneodjaakdaaGreat.Ex
open Go Go.RowKit
open Go.Proofs.YtchjneodjaakdaaGreat.Sc (firstV firstOk lastV lastOk)
def hkX : Hook := orHook hk_sums (hkL)
theorem hkX_ok : HookOk Tryz.prog hkX := orHook_ok hk_sums_ok (hkL_ok)
def exOrc : Orc := fun f t _ => if Nat.beq f 6 then (if Nat.beq t 29 then some (.bool true) else if Nat.beq t 40 then some (.bool false) else none) else none
def exCs (x y : Int) : Cs := [(b2i (uB x), 1), (b2i (uB y), 1), (b2i (nW (constI x) && nW (constI y)), 1), (b2i (oneK (DoI 0 true (constI x) (constI y))), 1), (b2i (uB x && uB y), 1), (b2i (oneI (DoI 0 true (constI x) (constI y)) != aluI 0 true x y), 0), (b2i (uB x), 1), (b2i (uB y), 1), (b2i (nW (constI x) && nW (constI y)), 1), (b2i (oneK (DoI 16 true (constI x) (constI y))), 1), (b2i (uB x && uB y), 1), (b2i (oneI (DoI 16 true (constI x) (constI y)) != aluI 16 true x y), 0), (b2i (uB x), 1), (b2i (uB y), 1), (b2i (nW (constI x) && nW (constI y)), 1), (b2i (oneK (DoI 32 true (constI x) (constI y))), 1), (b2i (uB x && uB y), 1), (b2i (oneI (DoI 32 true (constI x) (constI y)) != aluI 32 true x y), 0), (b2i (uB x), 1), (b2i (uB y), 1), (b2i (nW (constI x) && nW (constI y)), 1), (b2i (oneK (DoI 64 true (constI x) (constI y))), 1), (b2i (uB x && uB y), 1), (b2i (oneI (DoI 64 true (constI x) (constI y)) != aluI 64 true x y), 0), (b2i (uB x), 1), (b2i (uB y), 1), (b2i (nW (constI x) && nW (constI y)), 1), (b2i (oneK (DoI 80 true (constI x) (constI y))), 1), (b2i (uB x && uB y), 1), (b2i (oneI (DoI 80 true (constI x) (constI y)) != aluI 80 true x y), 0), (b2i (uB x), 1), (b2i (uB y), 1), (b2i (nW (constI x) && nW (constI y)), 1), (b2i (oneK (DoI 160 true (constI x) (constI y))), 1), (b2i (uB x && uB y), 1), (b2i (oneI (DoI 160 true (constI x) (constI y)) != aluI 160 true x y), 0), (b2i (uB x), 1), (b2i (uB y), 1), (b2i (nW (constI x) && nW (constI y)), 1), (b2i (oneK (DoI 176 true (constI x) (constI y))), 1), (b2i (uB x && uB y), 1), (b2i (oneI (DoI 176 true (constI x) (constI y)) != aluI 176 true x y), 0), (b2i (uB x), 1), (b2i (uB y), 1), (b2i (nW (constI x) && nW (constI y)), 1), (b2i (oneK (DoI 128 true (constI x) (constI y))), 1), (b2i (uB x && uB y), 1), (b2i (oneI (DoI 128 true (constI x) (constI y)) != aluI 128 true x y), 0)]
set_option maxHeartbeats 0 in
set_option maxRecDepth 1000000 in
theorem ex_run (x y : Int) (he : (exCs x y).map (·.1) = (exCs x y).map (·.2)) (w : World) : Calls Tryz.prog 6 #[.int .u64 x, .int .u64 y] w fun e w' => e = .returned (.bool true) ∧ Gr w w' :=
  rk hkX_ok exOrc (cs := exCs x y) rfl (by kernel_rfl) (by kernel_rfl) he w
theorem oneK_const (x : Int) : oneK (constI x) = true := rfl
theorem oneI_const (x : Int) : oneI (constI x) = x := rfl
theorem oneK_tight {x : Int} (hk : tightK (constI x) = true) : oneK (tightI (constI x)) = true := by
  have hk' := hk
  unfold tightK at hk'
  simp only [Bool.and_eq_true] at hk'
  have hb : (N (((tB (constI x).t).1 ^^^ (tB (knownI (tP (constI x)) (tM (constI x)))).1) &&& ~~~(tB (constI x).t).2 &&& ~~~(tB (knownI (tP (constI x)) (tM (constI x)))).2) == 0) = true := hk'.2
  have e : (tightI (constI x)).t = tBothI (constI x).t (knownI (tP (constI x)) (tM (constI x))) := by
    unfold tightI; rw [if_pos hk]
  have e2 : (tightI (constI x)).t.m = 0 := by
    rw [e]
    unfold tBothI tBothV
    rw [if_pos hb]
    show N ((tB (constI x).t).2 &&& _) = 0
    rw [show (tB (constI x).t).2 = 0#64 from rfl, BitVec.zero_and]
    rfl
  unfold oneK
  rw [e2]; rfl
theorem Do_const (op : Int) (x y : BitVec 64) : DoI op true (constI (N x)) (constI (N y)) = constI (aluI op true (N x) (N y)) := by
  obtain ⟨ka, ta⟩ := tight_has' (const_has' x)
  obtain ⟨kb, tb⟩ := tight_has' (const_has' y)
  have oa := oneK_tight ka
  have ob := oneK_tight kb
  unfold DoI
  simp only [ka, kb, oa, ob, Bool.and_self, if_true]
  rw [one_has oa (nW_tight _) ta, one_has ob (nW_tight _) tb]
theorem ex_law (x y : Int) (w0 : (Lit.int .u64 x).wf = true) (w1 : (Lit.int .u64 y).wf = true) (w : World) : Calls Tryz.prog 6 #[.int .u64 x, .int .u64 y] w fun e w' => e = .returned (.bool true) ∧ Gr w w' := by
  obtain ⟨x, rfl⟩ := wf_N w0
  obtain ⟨y, rfl⟩ := wf_N w1
  refine ex_run (N x) (N y) ?_ w
  have h1 := uB_N x
  have h2 := uB_N y
  have h3 : (nW (constI (N x)) && nW (constI (N y))) = true := by rw [nW_const h1, nW_const h2]; rfl
  have h4 : (uB (N x) && uB (N y)) = true := by rw [h1, h2]; rfl
  have h5 : ∀ op : Int, oneK (DoI op true (constI (N x)) (constI (N y))) = true := fun op => by rw [Do_const]; rfl
  have h6 : ∀ op : Int, (oneI (DoI op true (constI (N x)) (constI (N y))) != aluI op true (N x) (N y)) = false := fun op => by
    rw [Do_const, oneI_const]; simp
  unfold exCs
  rw [h3, h4, h1, h2, h5 0, h5 16, h5 32, h5 64, h5 80, h5 160, h5 176, h5 128, h6 0, h6 16, h6 32, h6 64, h6 80, h6 160, h6 176, h6 128]
  rfl
end Go.Proofs.YtchjneodjaakdaaGreat.Ex
end
section
namespace Go.Proofs.YtchjneodjaakdaaGreat.Ex
open Go Go.RowKit
open Go.Proofs.YtchjneodjaakdaaGreat.Sc (firstV firstOk lastV lastOk)
open Go.Proofs.YtchjneodjaakdaaGreat.Spn (Sp okS tightS SHas SIn SValid two_forms tight_has tight_in tight_cases plus_in minus_in empty_iff plusS minusS emptyS)
def stOrc (b4 b7 b32 b35 : Bool) : Orc := fun f t _ =>
  if Nat.beq f 5 then
    (if Nat.beq t 43 || Nat.beq t 49 || Nat.beq t 54 || Nat.beq t 59 || Nat.beq t 64 || Nat.beq t 72 || Nat.beq t 77 || Nat.beq t 86 then some (.bool true)
    else if Nat.beq t 32 then some (.bool b32) else if Nat.beq t 35 then some (.bool b35) else none)
  else if Nat.beq f 18 then (if Nat.beq t 4 then some (.bool b4) else if Nat.beq t 7 then some (.bool b7) else none) else none
def stOrc0 : Orc := fun f t _ =>
  if Nat.beq f 5 && (Nat.beq t 43 || Nat.beq t 49 || Nat.beq t 54 || Nat.beq t 59 || Nat.beq t 64 || Nat.beq t 72 || Nat.beq t 77 || Nat.beq t 86) then some (.bool true) else none
def stnCs (v a0 a1 a2 a3 a4 : Int) (n : Int) : Cs := [(b2i (nW (madeI v a0 a1 a2 a3 a4)), 1), (b2i (uB v), 1), (b2i (decide (n < 0)), 1), (b2i (decide (n ≥ 0)), 0), (b2i (tightK (madeI v a0 a1 a2 a3 a4)), 1), (b2i (nW (tightI (madeI v a0 a1 a2 a3 a4)) && uB v), 1), (b2i (rHasI (tightI (madeI v a0 a1 a2 a3 a4)) v), 1), (b2i (nW (madeI v a0 a1 a2 a3 a4) && nW (tightI (madeI v a0 a1 a2 a3 a4))), 1), (b2i (nInI (madeI v a0 a1 a2 a3 a4) (tightI (madeI v a0 a1 a2 a3 a4))), 1), (b2i (nW (madeI v a0 a1 a2 a3 a4) && uB v), 1), (b2i (nHasI (madeI v a0 a1 a2 a3 a4) v), 1), (b2i (oneI (constI v) == v), 1), (b2i (nW anyN && uB v), 1), (b2i (rHasI anyN v), 1), (b2i (nW anyN && uB v), 1), (b2i (rHasI anyN v), 1), (b2i (nW anyN && uB v), 1), (b2i ((v == v) == rHasI anyN v), 1)]
set_option maxHeartbeats 0 in
set_option maxRecDepth 1000000 in
theorem stn_run (v a0 a1 a2 a3 a4 : Int) (n : Int) (he : (stnCs v a0 a1 a2 a3 a4 n).map (·.1) = (stnCs v a0 a1 a2 a3 a4 n).map (·.2)) (w : World) : Calls Tryz.prog 5 #[.int .u64 v, .agg ⟨[.int .u64 a0, .int .u64 a1, .int .u64 a2, .int .u64 a3, .int .u64 a4]⟩, .int .i64 n] w fun e w' => e = .returned (.bool true) ∧ Gr w w' :=
  rk hkX_ok (stOrc true true false true) (cs := stnCs v a0 a1 a2 a3 a4 n) rfl (by kernel_rfl) (by kernel_rfl) he w
def stbCs (v a0 a1 a2 a3 a4 : Int) (n : Int) : Cs := [(b2i (nW (madeI v a0 a1 a2 a3 a4)), 1), (b2i (uB v), 1), (b2i (decide (n < 0)), 0), (b2i (decide (n ≥ 8)), 1), (b2i (decide (n ≥ 0)), 1), (b2i (decide (n < 8)), 0), (b2i (tightK (madeI v a0 a1 a2 a3 a4)), 1), (b2i (nW (tightI (madeI v a0 a1 a2 a3 a4)) && uB v), 1), (b2i (rHasI (tightI (madeI v a0 a1 a2 a3 a4)) v), 1), (b2i (nW (madeI v a0 a1 a2 a3 a4) && nW (tightI (madeI v a0 a1 a2 a3 a4))), 1), (b2i (nInI (madeI v a0 a1 a2 a3 a4) (tightI (madeI v a0 a1 a2 a3 a4))), 1), (b2i (nW (madeI v a0 a1 a2 a3 a4) && uB v), 1), (b2i (nHasI (madeI v a0 a1 a2 a3 a4) v), 1), (b2i (oneI (constI v) == v), 1), (b2i (nW anyN && uB v), 1), (b2i (rHasI anyN v), 1), (b2i (nW anyN && uB v), 1), (b2i (rHasI anyN v), 1), (b2i (nW anyN && uB v), 1), (b2i ((v == v) == rHasI anyN v), 1)]
set_option maxHeartbeats 0 in
set_option maxRecDepth 1000000 in
theorem stb_run (v a0 a1 a2 a3 a4 : Int) (n : Int) (he : (stbCs v a0 a1 a2 a3 a4 n).map (·.1) = (stbCs v a0 a1 a2 a3 a4 n).map (·.2)) (w : World) : Calls Tryz.prog 5 #[.int .u64 v, .agg ⟨[.int .u64 a0, .int .u64 a1, .int .u64 a2, .int .u64 a3, .int .u64 a4]⟩, .int .i64 n] w fun e w' => e = .returned (.bool true) ∧ Gr w w' :=
  rk hkX_ok (stOrc false true true false) (cs := stbCs v a0 a1 a2 a3 a4 n) rfl (by kernel_rfl) (by kernel_rfl) he w
def st0Cs (v a0 a1 a2 a3 a4 : Int) : Cs := [(b2i (nW (madeI v a0 a1 a2 a3 a4)), 1), (b2i (uB v), 1), (b2i (uB 0), 1), (b2i (tightK (madeI v a0 a1 a2 a3 a4)), 1), (b2i (nW (tightI (madeI v a0 a1 a2 a3 a4)) && uB v), 1), (b2i (rHasI (tightI (madeI v a0 a1 a2 a3 a4)) v), 1), (b2i (nW (madeI v a0 a1 a2 a3 a4) && nW (tightI (madeI v a0 a1 a2 a3 a4))), 1), (b2i (nInI (madeI v a0 a1 a2 a3 a4) (tightI (madeI v a0 a1 a2 a3 a4))), 1), (b2i (nW (madeI v a0 a1 a2 a3 a4) && uB v), 1), (b2i (nHasI (madeI v a0 a1 a2 a3 a4) v), 1), (b2i (oneI (constI v) == v), 1), (b2i (nW (uptoI 0) && uB (andI v 0)), 1), (b2i (rHasI (uptoI 0) (andI v 0)), 1), (b2i (nW anyN && uB v), 1), (b2i (rHasI anyN v), 1), (b2i (nW (uptoI 0) && uB v), 1), (b2i (((andI v 0) == v) == rHasI (uptoI 0) v), 1)]
set_option maxHeartbeats 0 in
set_option maxRecDepth 1000000 in
theorem st0_run (v a0 a1 a2 a3 a4 : Int) (he : (st0Cs v a0 a1 a2 a3 a4).map (·.1) = (st0Cs v a0 a1 a2 a3 a4).map (·.2)) (w : World) : Calls Tryz.prog 5 #[.int .u64 v, .agg ⟨[.int .u64 a0, .int .u64 a1, .int .u64 a2, .int .u64 a3, .int .u64 a4]⟩, .int .i64 0] w fun e w' => e = .returned (.bool true) ∧ Gr w w' :=
  rk hkX_ok stOrc0 (cs := st0Cs v a0 a1 a2 a3 a4) rfl (by kernel_rfl) (by kernel_rfl) he w
def st1Cs (v a0 a1 a2 a3 a4 : Int) : Cs := [(b2i (nW (madeI v a0 a1 a2 a3 a4)), 1), (b2i (uB v), 1), (b2i (uB 255), 1), (b2i (tightK (madeI v a0 a1 a2 a3 a4)), 1), (b2i (nW (tightI (madeI v a0 a1 a2 a3 a4)) && uB v), 1), (b2i (rHasI (tightI (madeI v a0 a1 a2 a3 a4)) v), 1), (b2i (nW (madeI v a0 a1 a2 a3 a4) && nW (tightI (madeI v a0 a1 a2 a3 a4))), 1), (b2i (nInI (madeI v a0 a1 a2 a3 a4) (tightI (madeI v a0 a1 a2 a3 a4))), 1), (b2i (nW (madeI v a0 a1 a2 a3 a4) && uB v), 1), (b2i (nHasI (madeI v a0 a1 a2 a3 a4) v), 1), (b2i (oneI (constI v) == v), 1), (b2i (nW (uptoI 255) && uB (andI v 255)), 1), (b2i (rHasI (uptoI 255) (andI v 255)), 1), (b2i (nW anyN && uB v), 1), (b2i (rHasI anyN v), 1), (b2i (nW (uptoI 255) && uB v), 1), (b2i (((andI v 255) == v) == rHasI (uptoI 255) v), 1)]
set_option maxHeartbeats 0 in
set_option maxRecDepth 1000000 in
theorem st1_run (v a0 a1 a2 a3 a4 : Int) (he : (st1Cs v a0 a1 a2 a3 a4).map (·.1) = (st1Cs v a0 a1 a2 a3 a4).map (·.2)) (w : World) : Calls Tryz.prog 5 #[.int .u64 v, .agg ⟨[.int .u64 a0, .int .u64 a1, .int .u64 a2, .int .u64 a3, .int .u64 a4]⟩, .int .i64 1] w fun e w' => e = .returned (.bool true) ∧ Gr w w' :=
  rk hkX_ok stOrc0 (cs := st1Cs v a0 a1 a2 a3 a4) rfl (by kernel_rfl) (by kernel_rfl) he w
def st2Cs (v a0 a1 a2 a3 a4 : Int) : Cs := [(b2i (nW (madeI v a0 a1 a2 a3 a4)), 1), (b2i (uB v), 1), (b2i (uB 65535), 1), (b2i (tightK (madeI v a0 a1 a2 a3 a4)), 1), (b2i (nW (tightI (madeI v a0 a1 a2 a3 a4)) && uB v), 1), (b2i (rHasI (tightI (madeI v a0 a1 a2 a3 a4)) v), 1), (b2i (nW (madeI v a0 a1 a2 a3 a4) && nW (tightI (madeI v a0 a1 a2 a3 a4))), 1), (b2i (nInI (madeI v a0 a1 a2 a3 a4) (tightI (madeI v a0 a1 a2 a3 a4))), 1), (b2i (nW (madeI v a0 a1 a2 a3 a4) && uB v), 1), (b2i (nHasI (madeI v a0 a1 a2 a3 a4) v), 1), (b2i (oneI (constI v) == v), 1), (b2i (nW (uptoI 65535) && uB (andI v 65535)), 1), (b2i (rHasI (uptoI 65535) (andI v 65535)), 1), (b2i (nW anyN && uB v), 1), (b2i (rHasI anyN v), 1), (b2i (nW (uptoI 65535) && uB v), 1), (b2i (((andI v 65535) == v) == rHasI (uptoI 65535) v), 1)]
set_option maxHeartbeats 0 in
set_option maxRecDepth 1000000 in
theorem st2_run (v a0 a1 a2 a3 a4 : Int) (he : (st2Cs v a0 a1 a2 a3 a4).map (·.1) = (st2Cs v a0 a1 a2 a3 a4).map (·.2)) (w : World) : Calls Tryz.prog 5 #[.int .u64 v, .agg ⟨[.int .u64 a0, .int .u64 a1, .int .u64 a2, .int .u64 a3, .int .u64 a4]⟩, .int .i64 2] w fun e w' => e = .returned (.bool true) ∧ Gr w w' :=
  rk hkX_ok stOrc0 (cs := st2Cs v a0 a1 a2 a3 a4) rfl (by kernel_rfl) (by kernel_rfl) he w
def st3Cs (v a0 a1 a2 a3 a4 : Int) : Cs := [(b2i (nW (madeI v a0 a1 a2 a3 a4)), 1), (b2i (uB v), 1), (b2i (uB 16777215), 1), (b2i (tightK (madeI v a0 a1 a2 a3 a4)), 1), (b2i (nW (tightI (madeI v a0 a1 a2 a3 a4)) && uB v), 1), (b2i (rHasI (tightI (madeI v a0 a1 a2 a3 a4)) v), 1), (b2i (nW (madeI v a0 a1 a2 a3 a4) && nW (tightI (madeI v a0 a1 a2 a3 a4))), 1), (b2i (nInI (madeI v a0 a1 a2 a3 a4) (tightI (madeI v a0 a1 a2 a3 a4))), 1), (b2i (nW (madeI v a0 a1 a2 a3 a4) && uB v), 1), (b2i (nHasI (madeI v a0 a1 a2 a3 a4) v), 1), (b2i (oneI (constI v) == v), 1), (b2i (nW (uptoI 16777215) && uB (andI v 16777215)), 1), (b2i (rHasI (uptoI 16777215) (andI v 16777215)), 1), (b2i (nW anyN && uB v), 1), (b2i (rHasI anyN v), 1), (b2i (nW (uptoI 16777215) && uB v), 1), (b2i (((andI v 16777215) == v) == rHasI (uptoI 16777215) v), 1)]
set_option maxHeartbeats 0 in
set_option maxRecDepth 1000000 in
theorem st3_run (v a0 a1 a2 a3 a4 : Int) (he : (st3Cs v a0 a1 a2 a3 a4).map (·.1) = (st3Cs v a0 a1 a2 a3 a4).map (·.2)) (w : World) : Calls Tryz.prog 5 #[.int .u64 v, .agg ⟨[.int .u64 a0, .int .u64 a1, .int .u64 a2, .int .u64 a3, .int .u64 a4]⟩, .int .i64 3] w fun e w' => e = .returned (.bool true) ∧ Gr w w' :=
  rk hkX_ok stOrc0 (cs := st3Cs v a0 a1 a2 a3 a4) rfl (by kernel_rfl) (by kernel_rfl) he w
def st4Cs (v a0 a1 a2 a3 a4 : Int) : Cs := [(b2i (nW (madeI v a0 a1 a2 a3 a4)), 1), (b2i (uB v), 1), (b2i (uB 4294967295), 1), (b2i (tightK (madeI v a0 a1 a2 a3 a4)), 1), (b2i (nW (tightI (madeI v a0 a1 a2 a3 a4)) && uB v), 1), (b2i (rHasI (tightI (madeI v a0 a1 a2 a3 a4)) v), 1), (b2i (nW (madeI v a0 a1 a2 a3 a4) && nW (tightI (madeI v a0 a1 a2 a3 a4))), 1), (b2i (nInI (madeI v a0 a1 a2 a3 a4) (tightI (madeI v a0 a1 a2 a3 a4))), 1), (b2i (nW (madeI v a0 a1 a2 a3 a4) && uB v), 1), (b2i (nHasI (madeI v a0 a1 a2 a3 a4) v), 1), (b2i (oneI (constI v) == v), 1), (b2i (nW (uptoI 4294967295) && uB (andI v 4294967295)), 1), (b2i (rHasI (uptoI 4294967295) (andI v 4294967295)), 1), (b2i (nW anyN && uB v), 1), (b2i (rHasI anyN v), 1), (b2i (nW (uptoI 4294967295) && uB v), 1), (b2i (((andI v 4294967295) == v) == rHasI (uptoI 4294967295) v), 1)]
set_option maxHeartbeats 0 in
set_option maxRecDepth 1000000 in
theorem st4_run (v a0 a1 a2 a3 a4 : Int) (he : (st4Cs v a0 a1 a2 a3 a4).map (·.1) = (st4Cs v a0 a1 a2 a3 a4).map (·.2)) (w : World) : Calls Tryz.prog 5 #[.int .u64 v, .agg ⟨[.int .u64 a0, .int .u64 a1, .int .u64 a2, .int .u64 a3, .int .u64 a4]⟩, .int .i64 4] w fun e w' => e = .returned (.bool true) ∧ Gr w w' :=
  rk hkX_ok stOrc0 (cs := st4Cs v a0 a1 a2 a3 a4) rfl (by kernel_rfl) (by kernel_rfl) he w
def st5Cs (v a0 a1 a2 a3 a4 : Int) : Cs := [(b2i (nW (madeI v a0 a1 a2 a3 a4)), 1), (b2i (uB v), 1), (b2i (uB 1099511627775), 1), (b2i (tightK (madeI v a0 a1 a2 a3 a4)), 1), (b2i (nW (tightI (madeI v a0 a1 a2 a3 a4)) && uB v), 1), (b2i (rHasI (tightI (madeI v a0 a1 a2 a3 a4)) v), 1), (b2i (nW (madeI v a0 a1 a2 a3 a4) && nW (tightI (madeI v a0 a1 a2 a3 a4))), 1), (b2i (nInI (madeI v a0 a1 a2 a3 a4) (tightI (madeI v a0 a1 a2 a3 a4))), 1), (b2i (nW (madeI v a0 a1 a2 a3 a4) && uB v), 1), (b2i (nHasI (madeI v a0 a1 a2 a3 a4) v), 1), (b2i (oneI (constI v) == v), 1), (b2i (nW (uptoI 1099511627775) && uB (andI v 1099511627775)), 1), (b2i (rHasI (uptoI 1099511627775) (andI v 1099511627775)), 1), (b2i (nW anyN && uB v), 1), (b2i (rHasI anyN v), 1), (b2i (nW (uptoI 1099511627775) && uB v), 1), (b2i (((andI v 1099511627775) == v) == rHasI (uptoI 1099511627775) v), 1)]
set_option maxHeartbeats 0 in
set_option maxRecDepth 1000000 in
theorem st5_run (v a0 a1 a2 a3 a4 : Int) (he : (st5Cs v a0 a1 a2 a3 a4).map (·.1) = (st5Cs v a0 a1 a2 a3 a4).map (·.2)) (w : World) : Calls Tryz.prog 5 #[.int .u64 v, .agg ⟨[.int .u64 a0, .int .u64 a1, .int .u64 a2, .int .u64 a3, .int .u64 a4]⟩, .int .i64 5] w fun e w' => e = .returned (.bool true) ∧ Gr w w' :=
  rk hkX_ok stOrc0 (cs := st5Cs v a0 a1 a2 a3 a4) rfl (by kernel_rfl) (by kernel_rfl) he w
def st6Cs (v a0 a1 a2 a3 a4 : Int) : Cs := [(b2i (nW (madeI v a0 a1 a2 a3 a4)), 1), (b2i (uB v), 1), (b2i (uB 281474976710655), 1), (b2i (tightK (madeI v a0 a1 a2 a3 a4)), 1), (b2i (nW (tightI (madeI v a0 a1 a2 a3 a4)) && uB v), 1), (b2i (rHasI (tightI (madeI v a0 a1 a2 a3 a4)) v), 1), (b2i (nW (madeI v a0 a1 a2 a3 a4) && nW (tightI (madeI v a0 a1 a2 a3 a4))), 1), (b2i (nInI (madeI v a0 a1 a2 a3 a4) (tightI (madeI v a0 a1 a2 a3 a4))), 1), (b2i (nW (madeI v a0 a1 a2 a3 a4) && uB v), 1), (b2i (nHasI (madeI v a0 a1 a2 a3 a4) v), 1), (b2i (oneI (constI v) == v), 1), (b2i (nW (uptoI 281474976710655) && uB (andI v 281474976710655)), 1), (b2i (rHasI (uptoI 281474976710655) (andI v 281474976710655)), 1), (b2i (nW anyN && uB v), 1), (b2i (rHasI anyN v), 1), (b2i (nW (uptoI 281474976710655) && uB v), 1), (b2i (((andI v 281474976710655) == v) == rHasI (uptoI 281474976710655) v), 1)]
set_option maxHeartbeats 0 in
set_option maxRecDepth 1000000 in
theorem st6_run (v a0 a1 a2 a3 a4 : Int) (he : (st6Cs v a0 a1 a2 a3 a4).map (·.1) = (st6Cs v a0 a1 a2 a3 a4).map (·.2)) (w : World) : Calls Tryz.prog 5 #[.int .u64 v, .agg ⟨[.int .u64 a0, .int .u64 a1, .int .u64 a2, .int .u64 a3, .int .u64 a4]⟩, .int .i64 6] w fun e w' => e = .returned (.bool true) ∧ Gr w w' :=
  rk hkX_ok stOrc0 (cs := st6Cs v a0 a1 a2 a3 a4) rfl (by kernel_rfl) (by kernel_rfl) he w
def st7Cs (v a0 a1 a2 a3 a4 : Int) : Cs := [(b2i (nW (madeI v a0 a1 a2 a3 a4)), 1), (b2i (uB v), 1), (b2i (uB 72057594037927935), 1), (b2i (tightK (madeI v a0 a1 a2 a3 a4)), 1), (b2i (nW (tightI (madeI v a0 a1 a2 a3 a4)) && uB v), 1), (b2i (rHasI (tightI (madeI v a0 a1 a2 a3 a4)) v), 1), (b2i (nW (madeI v a0 a1 a2 a3 a4) && nW (tightI (madeI v a0 a1 a2 a3 a4))), 1), (b2i (nInI (madeI v a0 a1 a2 a3 a4) (tightI (madeI v a0 a1 a2 a3 a4))), 1), (b2i (nW (madeI v a0 a1 a2 a3 a4) && uB v), 1), (b2i (nHasI (madeI v a0 a1 a2 a3 a4) v), 1), (b2i (oneI (constI v) == v), 1), (b2i (nW (uptoI 72057594037927935) && uB (andI v 72057594037927935)), 1), (b2i (rHasI (uptoI 72057594037927935) (andI v 72057594037927935)), 1), (b2i (nW anyN && uB v), 1), (b2i (rHasI anyN v), 1), (b2i (nW (uptoI 72057594037927935) && uB v), 1), (b2i (((andI v 72057594037927935) == v) == rHasI (uptoI 72057594037927935) v), 1)]
set_option maxHeartbeats 0 in
set_option maxRecDepth 1000000 in
theorem st7_run (v a0 a1 a2 a3 a4 : Int) (he : (st7Cs v a0 a1 a2 a3 a4).map (·.1) = (st7Cs v a0 a1 a2 a3 a4).map (·.2)) (w : World) : Calls Tryz.prog 5 #[.int .u64 v, .agg ⟨[.int .u64 a0, .int .u64 a1, .int .u64 a2, .int .u64 a3, .int .u64 a4]⟩, .int .i64 7] w fun e w' => e = .returned (.bool true) ∧ Gr w w' :=
  rk hkX_ok stOrc0 (cs := st7Cs v a0 a1 a2 a3 a4) rfl (by kernel_rfl) (by kernel_rfl) he w
theorem okT_known (p m : RI) : okT (tB (knownI p m)).1 (tB (knownI p m)).2 := by
  unfold knownI
  split
  · split
    · rw [tEitherI, tB_tN]; exact ok_of _ _
    · rw [tRangeI, tB_tN]; exact ok_of _ _
  · rw [tRangeI, tB_tN]; exact ok_of _ _
theorem both_in {a k : TI} (ha : okT (tB a).1 (tB a).2) (hk : okT (tB k).1 (tB k).2) (hb : tBothKI a k = true) : tInI a (tBothI a k) = true := by
  have hb' : (N (((tB a).1 ^^^ (tB k).1) &&& ~~~(tB a).2 &&& ~~~(tB k).2) == 0) = true := hb
  have hz : ((tB a).1 ^^^ (tB k).1) &&& ~~~(tB a).2 &&& ~~~(tB k).2 = 0#64 := (N_zero_iff' _).1 (by simpa using hb')
  unfold tInI tBothI
  rw [tB_tN]
  unfold tBothV
  rw [if_pos hb']
  rw [okT_iff] at ha hk
  have e1 : (tOf ((tB a).1 ||| (tB k).1) ((tB a).2 &&& (tB k).2)).2 &&& ~~~(tB a).2 = 0#64 := by
    apply BitVec.eq_of_getLsbD_eq
    intro i hi
    simp only [tOf, BitVec.getLsbD_and, BitVec.getLsbD_not, hi, decide_true, Bool.true_and, BitVec.getLsbD_zero]
    cases (tB a).2.getLsbD i <;> cases (tB k).2.getLsbD i <;> rfl
  have e2 : (tOf ((tB a).1 ||| (tB k).1) ((tB a).2 &&& (tB k).2)).1 &&& ~~~(tB a).2 = (tB a).1 := by
    apply BitVec.eq_of_getLsbD_eq
    intro i hi
    have q1 := ha i hi
    have q2 := hk i hi
    have q3 := congrArg (fun z : BitVec 64 => z.getLsbD i) hz
    simp only [BitVec.getLsbD_and, BitVec.getLsbD_xor, BitVec.getLsbD_not, hi, decide_true, Bool.true_and, BitVec.getLsbD_zero] at q3
    simp only [tOf, BitVec.getLsbD_and, BitVec.getLsbD_or, BitVec.getLsbD_not, hi, decide_true, Bool.true_and]
    revert q1 q2 q3
    cases (tB a).1.getLsbD i <;> cases (tB a).2.getLsbD i <;> cases (tB k).1.getLsbD i <;> cases (tB k).2.getLsbD i <;> decide
  rw [e1, e2]
  simp [show N (0#64) = 0 from rfl]
theorem halves_in {X : Sp} (hk : okS X = true) :
    ((halvesI (sN (tightS X))).1.ok = true → N (tightS X).lo ≤ N (B (halvesI (sN (tightS X))).1.lo) ∧ N (B (halvesI (sN (tightS X))).1.hi) ≤ N (tightS X).hi ∧ Z (tightS X).slo ≤ N (B (halvesI (sN (tightS X))).1.lo) ∧ N (B (halvesI (sN (tightS X))).1.hi) ≤ Z (tightS X).shi) ∧
    ((halvesI (sN (tightS X))).2.ok = true → N (tightS X).lo ≤ N (B (halvesI (sN (tightS X))).2.lo) ∧ N (B (halvesI (sN (tightS X))).2.hi) ≤ N (tightS X).hi ∧ Z (tightS X).slo ≤ N (B (halvesI (sN (tightS X))).2.lo) - 18446744073709551616 ∧ N (B (halvesI (sN (tightS X))).2.hi) - 18446744073709551616 ≤ Z (tightS X).shi) := by
  have ep := empty_iff (plusS X)
  have em := empty_iff (minusS X)
  have fp1 := two_forms (plusS X).1
  have fp2 := two_forms (plusS X).2
  have fm1 := two_forms (minusS X).1
  have fm2 := two_forms (minusS X).2
  have ip := @plus_in X
  have im := @minus_in X
  rcases tight_cases X with ⟨ho, h1, h2⟩ | ⟨ho, h1, h2, e⟩ | ⟨ho, h1, h2, e⟩ | ⟨ho, h1, h2, e⟩
  · rw [hk] at ho; cases ho
  all_goals
    simp only [h1, h2, Bool.true_eq_false, Bool.false_eq_true, false_and, or_false, false_or, true_and] at ep em
    rw [e]
    unfold halvesI sN
    simp only
    split
    · rename_i n1
      simp only [decide_eq_true_eq] at n1
      refine ⟨(fun _ => ?_), (fun h => by cases h)⟩
      simp only [BN]
      first
        | (have ip' := ip ep; have im' := im em; clear ip im; omega)
        | (have ip' := ip ep; clear ip im; omega)
        | (have im' := im em; clear ip im; omega)
    · rename_i n1
      simp only [decide_eq_true_eq] at n1
      split
      · rename_i n2
        simp only [decide_eq_true_eq] at n2
        refine ⟨(fun h => by cases h), (fun _ => ?_)⟩
        simp only [BN]
        first
          | (have ip' := ip ep; have im' := im em; clear ip im; omega)
          | (have ip' := ip ep; clear ip im; omega)
          | (have im' := im em; clear ip im; omega)
      · rename_i n2
        simp only [decide_eq_true_eq] at n2
        refine ⟨(fun _ => ?_), (fun _ => ?_)⟩ <;> simp only [B_u64, BZ, BN] <;>
        first
          | (have ip' := ip ep; have im' := im em; clear ip im; omega)
          | (have ip' := ip ep; clear ip im; omega)
          | (have im' := im em; clear ip im; omega)
theorem tight_sIn {a : NI} (hk : tightK a = true) : sInI a.s (tightI a).s = true := by
  have hk' := hk
  unfold tightK at hk'
  simp only [Bool.and_eq_true] at hk'
  have k1 : okS (sB a.s) = true := hk'.1.1
  have hok := hk'.1.2
  obtain ⟨_, i1, i2, i3, i4⟩ := tight_in k1
  have j1 : N (B a.s.lo) ≤ N (tightS (sB a.s)).lo := i1
  have j2 : N (tightS (sB a.s)).hi ≤ N (B a.s.hi) := i2
  have j3 : Z (B a.s.slo) ≤ Z (tightS (sB a.s)).slo := i3
  have j4 : Z (tightS (sB a.s)).shi ≤ Z (B a.s.shi) := i4
  clear i1 i2 i3 i4
  obtain ⟨g1, g2⟩ := halves_in k1
  have hpm := halves_parts k1
  have eS : sTightI a.s = sN (tightS (sB a.s)) := rfl
  rw [← eS] at g1 g2 hpm
  have hp : PlusR (tP a) := plus_among hpm.1
  have hm : MinusR (tM a) := minus_among hpm.2
  have ap : (tP a).ok = true → _ := fun h => among_in (r := (halvesI (sTightI a.s)).1) (t := a.t) h
  have am : (tM a).ok = true → _ := fun h => among_in (r := (halvesI (sTightI a.s)).2) (t := a.t) h
  have e : (tightI a).s = hullI (tP a) (tM a) := by unfold tightI; rw [if_pos hk]
  rw [e]
  show inB (sB a.s) (sB (hullI (tP a) (tM a))) = true
  rw [inB_iff]
  have z1 := two_forms (B (tP a).lo)
  have z2 := two_forms (B (tP a).hi)
  have z3 := two_forms (B (tM a).lo)
  have z4 := two_forms (B (tM a).hi)
  have eP : tP a = amongI (halvesI (sTightI a.s)).1 a.t := rfl
  have eM : tM a = amongI (halvesI (sTightI a.s)).2 a.t := rfl
  rw [← eP] at ap
  rw [← eM] at am
  generalize tP a = P at *
  generalize tM a = M at *
  unfold hullI
  cases km : M.ok with
  | false =>
    have kp : P.ok = true := by rw [km] at hok; simpa using hok
    obtain ⟨q0, q1, q2, q3⟩ := ap kp
    obtain ⟨r1, r2, r3, r4⟩ := g1 q0
    have hp' := hp kp
    simp only [Bool.false_eq_true, if_false]
    unfold SIn
    simp only [sB, B_i64]
    omega
  | true =>
    obtain ⟨s0, s1, s2, s3⟩ := am km
    obtain ⟨t1, t2, t3, t4⟩ := g2 s0
    have hm' := hm km
    simp only [if_true]
    cases kp : P.ok with
    | false =>
      simp only [Bool.false_eq_true, if_false]
      unfold SIn
      simp only [sB, B_i64]
      omega
    | true =>
      obtain ⟨q0, q1, q2, q3⟩ := ap kp
      obtain ⟨r1, r2, r3, r4⟩ := g1 q0
      have hp' := hp kp
      simp only [if_true]
      unfold SIn
      simp only [sB, B_i64]
      omega
theorem tight_nIn {a : NI} (ha : OkN a) (hk : tightK a = true) : nInI a (tightI a) = true := by
  unfold nInI
  rw [tight_sIn hk, Bool.and_true]
  have e : (tightI a).t = tBothI a.t (knownI (tP a) (tM a)) := by unfold tightI; rw [if_pos hk]
  rw [e]
  have hk' := hk
  unfold tightK at hk'
  simp only [Bool.and_eq_true] at hk'
  exact both_in ha (okT_known _ _) hk'.2
theorem nHas_iff (a : NI) (v : BitVec 64) : nHasI a (N v) = true ↔ HasN a v := by
  unfold nHasI tHasI sHasI HasN
  rw [Bool.and_eq_true, BN, hasB_iff]
  have : (N (v &&& ~~~(tB a.t).2) == N (tB a.t).1) = true ↔ hasT (tB a.t).1 (tB a.t).2 v := by
    unfold hasT
    rw [beq_iff_eq, N_eq_iff]
  rw [this]
theorem mask_low (v : BitVec 64) (k : Nat) (hk : k < 64) (M : Int) (hM : M = 2 ^ k - 1) : andI (N v) M = N v % 2 ^ k ∧ B M = BitVec.ofNat 64 (2 ^ k - 1) ∧ N (B M) = M ∧ uB M = true := by
  have hp : (1 : Int) ≤ 2 ^ k := by exact_mod_cast Nat.one_le_two_pow
  have hlt : (2 : Int) ^ k < 18446744073709551616 := by
    have h1 : 2 ^ k < 2 ^ 64 := Nat.pow_lt_pow_right (by decide) hk
    have h := Int.ofNat_lt.2 h1
    rw [Int.natCast_pow, Int.natCast_pow] at h
    exact h
  have e1 : B M = BitVec.ofNat 64 (2 ^ k - 1) := by
    rw [hM]
    have : ((2 : Int) ^ k - 1) = ((2 ^ k - 1 : Nat) : Int) := by
      have := Nat.one_le_two_pow (n := k)
      rw [Int.natCast_sub this]; simp
    rw [this]
    exact BitVec.ofInt_natCast 64 _
  have e2 : N (B M) = M := N_ofInt M (by omega) (by rw [hM]; show _ < (2 : Int) ^ 64; omega)
  refine ⟨?_, e1, e2, decide_eq_true (by omega)⟩
  rw [and_N v (B M) M rfl, e1]
  unfold N
  rw [BitVec.toNat_and, BitVec.toNat_ofNat, Nat.mod_eq_of_lt (show 2 ^ k - 1 < 2 ^ 64 by
    have : 2 ^ k < 2 ^ 64 := Nat.pow_lt_pow_right (by decide) hk
    omega), Nat.and_two_pow_sub_one_eq_mod]
  simp
theorem bytes_has (v : BitVec 64) (k : Nat) (hk : k < 64) (M : Int) (hM : M = 2 ^ k - 1) : rHasI (uptoI M) (andI (N v) M) = true ∧ ((andI (N v) M == N v) == rHasI (uptoI M) (N v)) = true := by
  obtain ⟨e1, e2, e3, e4⟩ := mask_low v k hk M hM
  have ea : andI (N v) M = N (v &&& B M) := and_N v (B M) M rfl
  have hp : (1 : Int) ≤ 2 ^ k := by exact_mod_cast Nat.one_le_two_pow
  have h0 : 0 ≤ N v % 2 ^ k := Int.emod_nonneg _ (by omega)
  have h1 : N v % 2 ^ k < 2 ^ k := Int.emod_lt_of_pos _ (by omega)
  refine ⟨?_, ?_⟩
  · rw [ea]
    refine (rHas_iff _ _).2 (upto_has' e4 ?_)
    rw [← ea, e1, e3]; omega
  · rw [beq_iff_eq, Bool.eq_iff_iff, rHas_iff, beq_iff_eq]
    constructor
    · intro h
      refine upto_has' e4 ?_
      rw [e3, ← h, e1]; omega
    · intro h
      have h2 : N v ≤ N (B M) := by
        have h3 := h.2.2.1
        have e5 : (sB (uptoI M).s).hi = B M := by
          show (sB (sUptoI M)).hi = B M
          unfold sUptoI
          split <;> rfl
        rw [e5] at h3; exact h3
      rw [e3] at h2
      rw [e1, Int.emod_eq_of_lt (N_nonneg v) (by omega)]
theorem st_law (v a0 a1 a2 a3 a4 n : Int) (w0 : (Lit.int .u64 v).wf = true) (x0 : (Lit.int .u64 a0).wf = true) (x1 : (Lit.int .u64 a1).wf = true) (x2 : (Lit.int .u64 a2).wf = true) (x3 : (Lit.int .u64 a3).wf = true) (x4 : (Lit.int .u64 a4).wf = true) (w : World) :
    Calls Tryz.prog 5 #[.int .u64 v, .agg ⟨[.int .u64 a0, .int .u64 a1, .int .u64 a2, .int .u64 a3, .int .u64 a4]⟩, .int .i64 n] w fun e w' => e = .returned (.bool true) ∧ Gr w w' := by
  obtain ⟨v, rfl⟩ := wf_N w0
  obtain ⟨a0, rfl⟩ := wf_N x0
  obtain ⟨a1, rfl⟩ := wf_N x1
  obtain ⟨a2, rfl⟩ := wf_N x2
  obtain ⟨a3, rfl⟩ := wf_N x3
  obtain ⟨a4, rfl⟩ := wf_N x4
  obtain ⟨hA, oA⟩ := made_has' v a0 a1 a2 a3 a4
  have wA : nW (madeI (N v) (N a0) (N a1) (N a2) (N a3) (N a4)) = true := nW_made (uB_N a0)
  obtain ⟨tk, th⟩ := tight_has' hA
  have q1 := uB_N v
  have q2 : (nW (tightI (madeI (N v) (N a0) (N a1) (N a2) (N a3) (N a4))) && uB (N v)) = true := by rw [nW_tight, q1]; rfl
  have q3 := (rHas_iff _ _).2 th
  have q4 : (nW (madeI (N v) (N a0) (N a1) (N a2) (N a3) (N a4)) && nW (tightI (madeI (N v) (N a0) (N a1) (N a2) (N a3) (N a4)))) = true := by rw [wA, nW_tight]; rfl
  have q5 := tight_nIn oA tk
  have q6 : (nW (madeI (N v) (N a0) (N a1) (N a2) (N a3) (N a4)) && uB (N v)) = true := by rw [wA, q1]; rfl
  have q7 := (nHas_iff _ _).2 hA
  have q8 : (oneI (constI (N v)) == N v) = true := by rw [oneI_const]; simp
  have q9 : (nW anyN && uB (N v)) = true := by rw [q1]; rfl
  have q10 := (rHas_iff anyN v).2 (any_has' v)
  have q11 : ((N v == N v) == rHasI anyN (N v)) = true := by rw [q10]; simp
  have u : ∀ M : Int, uB M = true → (nW (uptoI M) && uB (N v)) = true ∧ (nW (uptoI M) && uB (andI (N v) M)) = true := fun M h => by
    rw [nW_upto h, q1, uB_and]; exact ⟨rfl, rfl⟩
  by_cases c1 : n < 0
  · refine stn_run _ _ _ _ _ _ n ?_ w
    have d1 : decide (n < 0) = true := decide_eq_true c1
    have d2 : decide (n ≥ 0) = false := decide_eq_false (by omega)
    unfold stnCs
    rw [q11, q2, q4, q6, q9, wA, q1, d1, d2, tk, q3, q5, q7, q8, q10]
    rfl
  · by_cases c2 : n ≥ 8
    · refine stb_run _ _ _ _ _ _ n ?_ w
      have d1 : decide (n < 0) = false := decide_eq_false c1
      have d2 : decide (n ≥ 0) = true := decide_eq_true (by omega)
      have d3 : decide (n ≥ 8) = true := decide_eq_true c2
      have d4 : decide (n < 8) = false := decide_eq_false (by omega)
      unfold stbCs
      rw [q11, q2, q4, q6, q9, wA, q1, d1, d3, d2, d4, tk, q3, q5, q7, q8, q10]
      rfl
    · have hn : n = 0 ∨ n = 1 ∨ n = 2 ∨ n = 3 ∨ n = 4 ∨ n = 5 ∨ n = 6 ∨ n = 7 := by omega
      rcases hn with rfl | rfl | rfl | rfl | rfl | rfl | rfl | rfl
      · refine st0_run _ _ _ _ _ _ ?_ w
        obtain ⟨b1, b2⟩ := bytes_has v 0 (by decide) 0 (by decide)
        obtain ⟨u1, u2⟩ := u 0 rfl
        unfold st0Cs
        rw [b2, u2, u1, q2, q4, q6, q9, wA, q1, show uB 0 = true from rfl, tk, q3, q5, q7, q8, b1, q10]
        rfl
      · refine st1_run _ _ _ _ _ _ ?_ w
        obtain ⟨b1, b2⟩ := bytes_has v 8 (by decide) 255 (by decide)
        obtain ⟨u1, u2⟩ := u 255 rfl
        unfold st1Cs
        rw [b2, u2, u1, q2, q4, q6, q9, wA, q1, show uB 255 = true from rfl, tk, q3, q5, q7, q8, b1, q10]
        rfl
      · refine st2_run _ _ _ _ _ _ ?_ w
        obtain ⟨b1, b2⟩ := bytes_has v 16 (by decide) 65535 (by decide)
        obtain ⟨u1, u2⟩ := u 65535 rfl
        unfold st2Cs
        rw [b2, u2, u1, q2, q4, q6, q9, wA, q1, show uB 65535 = true from rfl, tk, q3, q5, q7, q8, b1, q10]
        rfl
      · refine st3_run _ _ _ _ _ _ ?_ w
        obtain ⟨b1, b2⟩ := bytes_has v 24 (by decide) 16777215 (by decide)
        obtain ⟨u1, u2⟩ := u 16777215 rfl
        unfold st3Cs
        rw [b2, u2, u1, q2, q4, q6, q9, wA, q1, show uB 16777215 = true from rfl, tk, q3, q5, q7, q8, b1, q10]
        rfl
      · refine st4_run _ _ _ _ _ _ ?_ w
        obtain ⟨b1, b2⟩ := bytes_has v 32 (by decide) 4294967295 (by decide)
        obtain ⟨u1, u2⟩ := u 4294967295 rfl
        unfold st4Cs
        rw [b2, u2, u1, q2, q4, q6, q9, wA, q1, show uB 4294967295 = true from rfl, tk, q3, q5, q7, q8, b1, q10]
        rfl
      · refine st5_run _ _ _ _ _ _ ?_ w
        obtain ⟨b1, b2⟩ := bytes_has v 40 (by decide) 1099511627775 (by decide)
        obtain ⟨u1, u2⟩ := u 1099511627775 rfl
        unfold st5Cs
        rw [b2, u2, u1, q2, q4, q6, q9, wA, q1, show uB 1099511627775 = true from rfl, tk, q3, q5, q7, q8, b1, q10]
        rfl
      · refine st6_run _ _ _ _ _ _ ?_ w
        obtain ⟨b1, b2⟩ := bytes_has v 48 (by decide) 281474976710655 (by decide)
        obtain ⟨u1, u2⟩ := u 281474976710655 rfl
        unfold st6Cs
        rw [b2, u2, u1, q2, q4, q6, q9, wA, q1, show uB 281474976710655 = true from rfl, tk, q3, q5, q7, q8, b1, q10]
        rfl
      · refine st7_run _ _ _ _ _ _ ?_ w
        obtain ⟨b1, b2⟩ := bytes_has v 56 (by decide) 72057594037927935 (by decide)
        obtain ⟨u1, u2⟩ := u 72057594037927935 rfl
        unfold st7Cs
        rw [b2, u2, u1, q2, q4, q6, q9, wA, q1, show uB 72057594037927935 = true from rfl, tk, q3, q5, q7, q8, b1, q10]
        rfl
end Go.Proofs.YtchjneodjaakdaaGreat.Ex
end
