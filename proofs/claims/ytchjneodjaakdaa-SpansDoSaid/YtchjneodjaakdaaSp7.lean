/-
  The chapter's examples of layer 16 ('ends'); numbers around a number are a span that has it.
-/
import Derived.Test.YtchjneodjaakdaaSp6
import Derived.Test.YtchjneodjaakdaaCellsAt
namespace Go.Proofs.Ytchjneodjaakdaa
open Go.RowKit
open Spn (Sp umax umin smax smin okS tightS anyS settledS commonS minW maxW constS addR subR SHas SValid SIn)
attribute [local go_sem] u64_wrap BitVec.ofInt_add ofInt_N ofInt_Nw u64_and u64_or u64_xor wrap64_N ofInt_Z64 max_N min_N max_Z min_Z w_add w_sub

theorem made_has (v b0 b1 b2 b3 : BitVec 64) : SHas (madeS v b0 b1 b2 b3) v := by
  have hv := Spn.two_forms v
  have m0 : N (umin v b0) ≤ N v := by rw [Spn.N_umin]; exact Int.min_le_left _ _
  have m0' := N_nonneg (umin v b0)
  have nn : N (~~~v) = 18446744073709551615 - N v := by
    unfold N; rw [BitVec.toNat_not]; have := v.isLt; omega
  have m1 : N (umin (~~~v) b1) ≤ N (~~~v) := by rw [Spn.N_umin]; exact Int.min_le_left _ _
  have m1' := N_nonneg (umin (~~~v) b1)
  have e0 : N (BitVec.ofInt 64 (N v - N (umin v b0))) = N v - N (umin v b0) := N_ofInt _ (by omega) (by omega)
  have e1 := Spn.N_add v (umin (~~~v) b1)
  have r2 : N (v - 9223372036854775808#64) = Z v + 9223372036854775808 := by
    have h := Spn.N_sub v 9223372036854775808#64
    rw [show N (9223372036854775808#64) = 9223372036854775808 by decide] at h
    omega
  have r3 : N (BitVec.ofInt 64 (9223372036854775807 - N v)) = 9223372036854775807 - Z v := by
    rw [N_ofInt_mod]
    have : ((2 ^ 64 : Nat) : Int) = 18446744073709551616 := by decide
    rw [this]
    omega
  have d1 : N (downW v b2) ≤ N (v - 9223372036854775808#64) := by rw [downW_N]; exact Int.le_trans (Int.min_le_left _ _) (Int.min_le_left _ _)
  have d2 : N (downW v b2) ≤ 9223372036854775807 := by rw [downW_N]; exact Int.min_le_right _ _
  have d3 := N_nonneg (downW v b2)
  have u1 : N (upW v b3) ≤ N (BitVec.ofInt 64 (9223372036854775807 - N v)) := by rw [upW_N]; exact Int.le_trans (Int.min_le_left _ _) (Int.min_le_left _ _)
  have u2 : N (upW v b3) ≤ 9223372036854775807 := by rw [upW_N]; exact Int.min_le_right _ _
  have u3 := N_nonneg (upW v b3)
  have s2 := Spn.N_sub v (downW v b2)
  have s3 := Spn.N_add v (upW v b3)
  have f2 := Spn.two_forms (v - downW v b2)
  have f3 := Spn.two_forms (v + upW v b3)
  rw [r2] at d1
  rw [r3] at u1
  clear r2 r3
  refine ⟨?_, ?_, ?_, ?_⟩
  · show N (BitVec.ofInt 64 (N v - N (umin v b0))) ≤ N v
    omega
  · show N v ≤ N (v + umin (~~~v) b1)
    omega
  · show Z (v - downW v b2) ≤ Z v
    clear e0 e1 m0 m1 nn s3 f3 u1 u2 u3
    omega
  · show Z v ≤ Z (v + upW v b3)
    clear e0 e1 m0 m1 nn s2 f2 d1 d2 d3
    omega
theorem e_upto9 (w : World) : Calls Try.prog 74 #[.int .u64 9] w fun e w' => e = .returned (.agg #[.int .u64 0, .int .u64 9, .int .i64 0, .int .i64 9]) ∧ Grown w w' := by
  have h := sp_upto 9#64 (by decide) w
  have n0 : N (9#64) = 9 := by decide +kernel
  have q0 : N (uptoL 9#64).lo = 0 := by decide +kernel
  have q1 : N (uptoL 9#64).hi = 9 := by decide +kernel
  have q2 : Z (uptoL 9#64).slo = 0 := by decide +kernel
  have q3 : Z (uptoL 9#64).shi = 9 := by decide +kernel
  simp only [q0, q1, q2, q3] at h
  simp only [n0] at h
  exact h
theorem e_const1 (w : World) : Calls Try.prog 72 #[.int .u64 1] w fun e w' => e = .returned (.agg #[.int .u64 1, .int .u64 1, .int .i64 1, .int .i64 1]) ∧ Grown w w' := by
  have h := sp_const 1#64 w
  have n0 : N (1#64) = 1 := by decide +kernel
  have q0 : N (constS 1#64).lo = 1 := by decide +kernel
  have q1 : N (constS 1#64).hi = 1 := by decide +kernel
  have q2 : Z (constS 1#64).slo = 1 := by decide +kernel
  have q3 : Z (constS 1#64).shi = 1 := by decide +kernel
  simp only [q0, q1, q2, q3] at h
  simp only [n0] at h
  exact h
theorem e_const10 (w : World) : Calls Try.prog 72 #[.int .u64 10] w fun e w' => e = .returned (.agg #[.int .u64 10, .int .u64 10, .int .i64 10, .int .i64 10]) ∧ Grown w w' := by
  have h := sp_const 10#64 w
  have n0 : N (10#64) = 10 := by decide +kernel
  have q0 : N (constS 10#64).lo = 10 := by decide +kernel
  have q1 : N (constS 10#64).hi = 10 := by decide +kernel
  have q2 : Z (constS 10#64).slo = 10 := by decide +kernel
  have q3 : Z (constS 10#64).shi = 10 := by decide +kernel
  simp only [q0, q1, q2, q3] at h
  simp only [n0] at h
  exact h
theorem e_add (w : World) : Calls Try.prog 34 #[.agg #[.int .u64 0, .int .u64 9, .int .i64 0, .int .i64 9], .agg #[.int .u64 1, .int .u64 1, .int .i64 1, .int .i64 1]] w fun e w' => e = .returned (.agg #[.int .u64 1, .int .u64 10, .int .i64 1, .int .i64 10]) ∧ Grown w w' := by
  have h := sp_add 0#64 9#64 0#64 9#64 1#64 1#64 1#64 1#64 w
  have n0 : N (0#64) = 0 := by decide +kernel
  have n1 : N (1#64) = 1 := by decide +kernel
  have n2 : N (9#64) = 9 := by decide +kernel
  have z0 : Z (0#64) = 0 := by decide +kernel
  have z1 : Z (1#64) = 1 := by decide +kernel
  have z2 : Z (9#64) = 9 := by decide +kernel
  have q0 : N (addR (settledS (⟨0#64, 9#64, 0#64, 9#64⟩ : Sp)) (settledS (⟨1#64, 1#64, 1#64, 1#64⟩ : Sp))).lo = 1 := by decide +kernel
  have q1 : N (addR (settledS (⟨0#64, 9#64, 0#64, 9#64⟩ : Sp)) (settledS (⟨1#64, 1#64, 1#64, 1#64⟩ : Sp))).hi = 10 := by decide +kernel
  have q2 : Z (addR (settledS (⟨0#64, 9#64, 0#64, 9#64⟩ : Sp)) (settledS (⟨1#64, 1#64, 1#64, 1#64⟩ : Sp))).slo = 1 := by decide +kernel
  have q3 : Z (addR (settledS (⟨0#64, 9#64, 0#64, 9#64⟩ : Sp)) (settledS (⟨1#64, 1#64, 1#64, 1#64⟩ : Sp))).shi = 10 := by decide +kernel
  simp only [q0, q1, q2, q3] at h
  simp only [n0, n1, n2, z0, z1, z2] at h
  exact h
theorem e_sub (w : World) : Calls Try.prog 35 #[.agg #[.int .u64 0, .int .u64 9, .int .i64 0, .int .i64 9], .agg #[.int .u64 10, .int .u64 10, .int .i64 10, .int .i64 10]] w fun e w' => e = .returned (.agg #[.int .u64 18446744073709551606, .int .u64 18446744073709551615, .int .i64 (-10), .int .i64 (-1)]) ∧ Grown w w' := by
  have h := sp_sub 0#64 9#64 0#64 9#64 10#64 10#64 10#64 10#64 w
  have n0 : N (0#64) = 0 := by decide +kernel
  have n1 : N (9#64) = 9 := by decide +kernel
  have n2 : N (10#64) = 10 := by decide +kernel
  have z0 : Z (0#64) = 0 := by decide +kernel
  have z1 : Z (9#64) = 9 := by decide +kernel
  have z2 : Z (10#64) = 10 := by decide +kernel
  have q0 : N (subR (settledS (⟨0#64, 9#64, 0#64, 9#64⟩ : Sp)) (settledS (⟨10#64, 10#64, 10#64, 10#64⟩ : Sp))).lo = 18446744073709551606 := by decide +kernel
  have q1 : N (subR (settledS (⟨0#64, 9#64, 0#64, 9#64⟩ : Sp)) (settledS (⟨10#64, 10#64, 10#64, 10#64⟩ : Sp))).hi = 18446744073709551615 := by decide +kernel
  have q2 : Z (subR (settledS (⟨0#64, 9#64, 0#64, 9#64⟩ : Sp)) (settledS (⟨10#64, 10#64, 10#64, 10#64⟩ : Sp))).slo = -10 := by decide +kernel
  have q3 : Z (subR (settledS (⟨0#64, 9#64, 0#64, 9#64⟩ : Sp)) (settledS (⟨10#64, 10#64, 10#64, 10#64⟩ : Sp))).shi = -1 := by decide +kernel
  simp only [q0, q1, q2, q3] at h
  simp only [n0, n1, n2, z0, z1, z2] at h
  exact h
theorem e_both (w : World) : Calls Try.prog 49 #[.agg #[.int .u64 0, .int .u64 9, .int .i64 0, .int .i64 9], .agg #[.int .u64 10, .int .u64 20, .int .i64 0, .int .i64 20]] w fun e w' => e = .returned (.tuple #[.agg #[.int .u64 0, .int .u64 0, .int .i64 0, .int .i64 0], .bool false]) ∧ Grown w w' := by
  have h := sp_both 0#64 9#64 0#64 9#64 10#64 20#64 0#64 20#64 w
  have n0 : N (0#64) = 0 := by decide +kernel
  have n1 : N (9#64) = 9 := by decide +kernel
  have n2 : N (10#64) = 10 := by decide +kernel
  have n3 : N (20#64) = 20 := by decide +kernel
  have z0 : Z (0#64) = 0 := by decide +kernel
  have z1 : Z (9#64) = 9 := by decide +kernel
  have z2 : Z (20#64) = 20 := by decide +kernel
  have q0 : N (tightS (commonS (⟨0#64, 9#64, 0#64, 9#64⟩ : Sp) (⟨10#64, 20#64, 0#64, 20#64⟩ : Sp))).lo = 0 := by decide +kernel
  have q1 : N (tightS (commonS (⟨0#64, 9#64, 0#64, 9#64⟩ : Sp) (⟨10#64, 20#64, 0#64, 20#64⟩ : Sp))).hi = 0 := by decide +kernel
  have q2 : Z (tightS (commonS (⟨0#64, 9#64, 0#64, 9#64⟩ : Sp) (⟨10#64, 20#64, 0#64, 20#64⟩ : Sp))).slo = 0 := by decide +kernel
  have q3 : Z (tightS (commonS (⟨0#64, 9#64, 0#64, 9#64⟩ : Sp) (⟨10#64, 20#64, 0#64, 20#64⟩ : Sp))).shi = 0 := by decide +kernel
  have q4 : okS (commonS (⟨0#64, 9#64, 0#64, 9#64⟩ : Sp) (⟨10#64, 20#64, 0#64, 20#64⟩ : Sp)) = false := by decide +kernel
  simp only [q0, q1, q2, q3, q4] at h
  simp only [n0, n1, n2, n3, z0, z1, z2] at h
  exact h
theorem e_has1 (w : World) : Calls Try.prog 78 #[.agg #[.int .u64 18446744073709551606, .int .u64 18446744073709551615, .int .i64 (-10), .int .i64 (-1)], .int .u64 18446744073709551615] w fun e w' => e = .returned (.bool true) ∧ Grown w w' := by
  have h := sp_has 18446744073709551606#64 18446744073709551615#64 18446744073709551606#64 18446744073709551615#64 18446744073709551615#64 w
  have n0 : N (18446744073709551606#64) = 18446744073709551606 := by decide +kernel
  have n1 : N (18446744073709551615#64) = 18446744073709551615 := by decide +kernel
  have z0 : Z (18446744073709551606#64) = -10 := by decide +kernel
  have z1 : Z (18446744073709551615#64) = -1 := by decide +kernel
  have q0 : hasB (⟨18446744073709551606#64, 18446744073709551615#64, 18446744073709551606#64, 18446744073709551615#64⟩ : Sp) 18446744073709551615#64 = true := by decide +kernel
  simp only [q0] at h
  simp only [n0, n1, z0, z1] at h
  exact h
theorem e_any (w : World) : Calls Try.prog 79 #[] w fun e w' => e = .returned (.agg #[.int .u64 0, .int .u64 18446744073709551615, .int .i64 (-9223372036854775808), .int .i64 9223372036854775807]) ∧ Grown w w' := by
  have h := sp_any w
  have q0 : N (anyS).lo = 0 := by decide +kernel
  have q1 : N (anyS).hi = 18446744073709551615 := by decide +kernel
  have q2 : Z (anyS).slo = -9223372036854775808 := by decide +kernel
  have q3 : Z (anyS).shi = 9223372036854775807 := by decide +kernel
  simp only [q0, q1, q2, q3] at h
  exact h
theorem e_has2 (w : World) : Calls Try.prog 78 #[.agg #[.int .u64 0, .int .u64 18446744073709551615, .int .i64 (-9223372036854775808), .int .i64 9223372036854775807], .int .u64 9223372036854775808] w fun e w' => e = .returned (.bool true) ∧ Grown w w' := by
  have h := sp_has 0#64 18446744073709551615#64 9223372036854775808#64 9223372036854775807#64 9223372036854775808#64 w
  have n0 : N (0#64) = 0 := by decide +kernel
  have n1 : N (9223372036854775808#64) = 9223372036854775808 := by decide +kernel
  have n2 : N (18446744073709551615#64) = 18446744073709551615 := by decide +kernel
  have z0 : Z (9223372036854775807#64) = 9223372036854775807 := by decide +kernel
  have z1 : Z (9223372036854775808#64) = -9223372036854775808 := by decide +kernel
  have q0 : hasB (⟨0#64, 18446744073709551615#64, 9223372036854775808#64, 9223372036854775807#64⟩ : Sp) 9223372036854775808#64 = true := by decide +kernel
  simp only [q0] at h
  simp only [n0, n1, n2, z0, z1] at h
  exact h
set_option maxRecDepth 100000 in
set_option maxHeartbeats 4000000 in
theorem ends_any  (w : World) : Calls Try.prog 47 #[] w fun e w' => e = .returned (.bool true) ∧ Grown w w' := by
  go_enter Try.func47, Try.ntmps47
  go_wp2_with fail
  refine (e_upto9 _).mono ?_
  rintro e w1 ⟨rfl, g1⟩
  go_wp2_with fail
  refine (e_const1 _).mono ?_
  rintro e w2 ⟨rfl, g2⟩
  go_wp2_with fail
  refine (e_add _).mono ?_
  rintro e w3 ⟨rfl, g3⟩
  go_wp2_with fail
  refine (e_upto9 _).mono ?_
  rintro e w4 ⟨rfl, g4⟩
  go_wp2_with fail
  refine (e_const10 _).mono ?_
  rintro e w5 ⟨rfl, g5⟩
  go_wp2_with fail
  refine (e_sub _).mono ?_
  rintro e w6 ⟨rfl, g6⟩
  go_wp2_with fail
  refine (e_upto9 _).mono ?_
  rintro e w7 ⟨rfl, g7⟩
  go_wp2_with fail
  refine (e_both _).mono ?_
  rintro e w8 ⟨rfl, g8⟩
  go_wp2_with fail
  refine (e_upto9 _).mono ?_
  rintro e w9 ⟨rfl, g9⟩
  have k3 : Grown w w3 := Grown.trans' g1 (Grown.trans' g2 g3)
  have k4 : Grown (w3.alloc (.cells #[.int .u64 1, .int .u64 10, .int .i64 1, .int .i64 10] 49)) w6 := Grown.trans' g4 (Grown.trans' g5 g6)
  have k6 : Grown (w6.alloc (.cells #[.int .u64 18446744073709551606, .int .u64 18446744073709551615, .int .i64 (-10), .int .i64 (-1)] 49)) w8 := Grown.trans' g7 g8
  have k9 : Grown (w6.alloc (.cells #[.int .u64 18446744073709551606, .int .u64 18446744073709551615, .int .i64 (-10), .int .i64 (-1)] 49)) w9 := Grown.trans' (k6.alloc _ _) g9
  have k10 : Grown (w3.alloc (.cells #[.int .u64 1, .int .u64 10, .int .i64 1, .int .i64 10] 49)) w9 := Grown.trans' (k4.alloc _ _) k9
  have k0 : Grown w w9 := Grown.trans' (k3.alloc _ _) k10
  have c0 := grown_cellAt (a := ⟨w3.heap.size, 0, none⟩) (v := .int .u64 1) k10 (by simp) (by simp [go_sem])
  have c1 := grown_cellAt (a := ⟨w3.heap.size, 1, none⟩) (v := .int .u64 10) k10 (by simp) (by simp [go_sem])
  have d0 := grown_cellAt (a := ⟨w6.heap.size, 0, none⟩) (v := .int .u64 18446744073709551606) k9 (by simp) (by simp [go_sem])
  have d1 := grown_cellAt (a := ⟨w6.heap.size, 1, none⟩) (v := .int .u64 18446744073709551615) k9 (by simp) (by simp [go_sem])
  have d2 := grown_cellAt (a := ⟨w6.heap.size, 2, none⟩) (v := .int .i64 (-10)) k9 (by simp) (by simp [go_sem])
  have d3 := grown_cellAt (a := ⟨w6.heap.size, 3, none⟩) (v := .int .i64 (-1)) k9 (by simp) (by simp [go_sem])
  clear g1 g2 g3 g4 g5 g6 g7 g8 g9 k3 k4 k6 k9 k10
  go_wp2_with fail
  refine (e_has1 _).mono ?_
  rintro e w10 ⟨rfl, g10⟩
  go_wp2_with fail
  refine (e_any _).mono ?_
  rintro e w11 ⟨rfl, g11⟩
  go_wp2_with fail
  refine (e_has2 _).mono ?_
  rintro e w12 ⟨rfl, g12⟩
  go_wp2_with fail
  go_ret
  exact ⟨rfl, Grown.trans' k0 (Grown.trans' g10 (Grown.trans' g11 g12))⟩
end Go.Proofs.Ytchjneodjaakdaa
