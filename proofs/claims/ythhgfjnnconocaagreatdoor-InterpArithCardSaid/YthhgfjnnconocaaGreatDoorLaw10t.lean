/-
  Layer 10: the law InterpArith, reckoned.
-/
import Derived.Test.YthhgfjnnconocaaGreatDoorLaw10t1
namespace Go.Proofs.YthhgfjnnconocaaGreatDoor.Ex
open Go Go.RowKit
set_option maxHeartbeats 0
set_option maxRecDepth 1000000
set_option linter.unusedVariables false
theorem ar_000 (op a b cc k cd : Int) : reckonPI Tryz.prog (arHook false false false) (arOrc false cc k cd) noLoop 100000 300 h10 4 [.int .u8 op, .int .u64 a, .int .u64 b] = some (.bool true, inter (passP false true 7 15 5 13 op a b cc k cd ++ passP false false 4 12 6 14 op a b cc k cd)) := by kernel_rfl
theorem ar_001 (op a b cc k cd : Int) : reckonPI Tryz.prog (arHook false false true) (arOrc false cc k cd) noLoop 100000 300 h10 4 [.int .u8 op, .int .u64 a, .int .u64 b] = some (.bool true, inter (passP false true 7 15 5 13 op a b cc k cd ++ passP true false 4 12 6 14 op a b cc k cd)) := by kernel_rfl
theorem ar_010 (op a b cc k cd : Int) : reckonPI Tryz.prog (arHook false true false) (arOrc false cc k cd) noLoop 100000 300 h10 4 [.int .u8 op, .int .u64 a, .int .u64 b] = some (.bool true, inter (passP true true 7 15 5 13 op a b cc k cd ++ passP false false 4 12 6 14 op a b cc k cd)) := by kernel_rfl
theorem ar_011 (op a b cc k cd : Int) : reckonPI Tryz.prog (arHook false true true) (arOrc false cc k cd) noLoop 100000 300 h10 4 [.int .u8 op, .int .u64 a, .int .u64 b] = some (.bool true, inter (passP true true 7 15 5 13 op a b cc k cd ++ passP true false 4 12 6 14 op a b cc k cd)) := by kernel_rfl
theorem ar_100 (op a b cc k cd : Int) : reckonPI Tryz.prog (arHook true false false) (arOrc true cc k cd) noLoop 100000 300 h10 4 [.int .u8 op, .int .u64 a, .int .u64 b] = some (.bool true, inter (passN false true 7 15 135 5 13 op a b cc k cd ++ passN false false 4 12 132 6 14 op a b cc k cd)) := by kernel_rfl
theorem ar_101 (op a b cc k cd : Int) : reckonPI Tryz.prog (arHook true false true) (arOrc true cc k cd) noLoop 100000 300 h10 4 [.int .u8 op, .int .u64 a, .int .u64 b] = some (.bool true, inter (passN false true 7 15 135 5 13 op a b cc k cd ++ passN true false 4 12 132 6 14 op a b cc k cd)) := by kernel_rfl
theorem ar_110 (op a b cc k cd : Int) : reckonPI Tryz.prog (arHook true true false) (arOrc true cc k cd) noLoop 100000 300 h10 4 [.int .u8 op, .int .u64 a, .int .u64 b] = some (.bool true, inter (passN true true 7 15 135 5 13 op a b cc k cd ++ passN false false 4 12 132 6 14 op a b cc k cd)) := by kernel_rfl
theorem ar_111 (op a b cc k cd : Int) : reckonPI Tryz.prog (arHook true true true) (arOrc true cc k cd) noLoop 100000 300 h10 4 [.int .u8 op, .int .u64 a, .int .u64 b] = some (.bool true, inter (passN true true 7 15 135 5 13 op a b cc k cd ++ passN true false 4 12 132 6 14 op a b cc k cd)) := by kernel_rfl
theorem interpArith_walk (op a b : Int) (o1 : 0 ≤ op) (a1 : 0 ≤ a) (a2 : a < 18446744073709551616) (b1 : 0 ≤ b) (b2 : b < 18446744073709551616) (w : World) (hL : Laid h10 w) : Calls Tryz.prog 4 #[.int .u8 op, .int .u64 a, .int .u64 b] w fun e w' => e = .returned (.bool true) ∧ Gr w w' := by
  have hA := cst_A a a1 a2
  have hB := cst_A b b1 b2
  have ua : (inU a).1 = (inU a).2 := by show b2i (decide (0 ≤ a ∧ a < 18446744073709551616)) = 1; rw [decide_eq_true ⟨a1, a2⟩]; rfl
  have ub : (inU b).1 = (inU b).2 := by show b2i (decide (0 ≤ b ∧ b < 18446744073709551616)) = 1; rw [decide_eq_true ⟨b1, b2⟩]; rfl
  have q13 : 0 ≤ op.tmod 13 ∧ op.tmod 13 < 13 := by rw [Int.tmod_eq_emod_of_nonneg o1]; omega
  have q11 : 0 ≤ op.tmod 11 ∧ op.tmod 11 < 11 := by rw [Int.tmod_eq_emod_of_nonneg o1]; omega
  obtain ⟨n, hn⟩ := Int.eq_ofNat_of_zero_le q13.1
  obtain ⟨k, hk⟩ := Int.eq_ofNat_of_zero_le q11.1
  have c13 := List.all_eq_true.1 chk13_all n (List.mem_range.2 (by omega))
  have c11 := List.all_eq_true.1 chk11_all k (List.mem_range.2 (by omega))
  simp only [chk13, Bool.and_eq_true, beq_iff_eq] at c13
  simp only [chk11, Bool.and_eq_true, beq_iff_eq, decide_eq_true_eq] at c11
  obtain ⟨d0, d1, d2, d3⟩ := c13
  obtain ⟨l0, l1, l2, l3⟩ := c11
  have k2 : (decide (0 ≤ (k : Int)) && (decide ((k : Int) < ((11 : Nat) : Int)) && decide ((k : Int).toNat < codes11.length))) = true := by
    simp only [Bool.and_eq_true, decide_eq_true_eq]
    exact ⟨by omega, by omega, by simpa using l0⟩
  have k3 : codes11.getD (k : Int).toNat 0 = codes11.getD k 0 := rfl
  have g0 : IntKind.u8.wrap (op.tmod 13 * 16) = (n : Int) * 16 := by rw [hn]; exact d0
  cases hneg : ((n : Int) * 16 == 128) with
  | false =>
    rw [hneg] at d3
    have g12 : op12 ((n : Int) * 16) = true := d3
    have all : ∀ hw hn : Bool, condS (codes11.getD k 0) true (BitVec.ofInt 64 a) (BitVec.ofInt 64 b) = hw → condS (codes11.getD k 0) false (BitVec.ofInt 64 a) (BitVec.ofInt 64 b) = hn →
        ∀ c ∈ passP hw true 7 15 5 13 op a b ((n : Int) * 16) k (codes11.getD k 0) ++ passP hn false 4 12 6 14 op a b ((n : Int) * 16) k (codes11.getD k 0), c.1 = c.2 := by
      intro hw hn' e1 e2 c hc
      rcases List.mem_append.1 hc with hc | hc
      · exact passP_ok g0 d1 hneg hA hB ua ub g12 hk k2 k3 l1 l3 e1 c hc
      · exact passP_ok g0 d2 hneg hA hB ua ub g12 hk k2 k3 l2 l3 e2 c hc
    cases hw : condS (codes11.getD k 0) true (BitVec.ofInt 64 a) (BitVec.ofInt 64 b) <;> cases hn' : condS (codes11.getD k 0) false (BitVec.ofInt 64 a) (BitVec.ofInt 64 b)
    · exact reckonP_ok noNG (arHook_ok false false false) noLoop_low (noLoop_ok _) _ 100000 300 h10 rfl rfl (ar_000 op a b _ _ _) (all _ _ hw hn') w hL
    · exact reckonP_ok noNG (arHook_ok false false true) noLoop_low (noLoop_ok _) _ 100000 300 h10 rfl rfl (ar_001 op a b _ _ _) (all _ _ hw hn') w hL
    · exact reckonP_ok noNG (arHook_ok false true false) noLoop_low (noLoop_ok _) _ 100000 300 h10 rfl rfl (ar_010 op a b _ _ _) (all _ _ hw hn') w hL
    · exact reckonP_ok noNG (arHook_ok false true true) noLoop_low (noLoop_ok _) _ 100000 300 h10 rfl rfl (ar_011 op a b _ _ _) (all _ _ hw hn') w hL
  | true =>
    rw [hneg] at d3
    have d3' : (or1 7 ((n : Int) * 16) == 135 && or1 4 ((n : Int) * 16) == 132) = true := d3
    simp only [Bool.and_eq_true, beq_iff_eq] at d3'
    have h128 : (n : Int) * 16 = 128 := by simpa using hneg
    have all : ∀ hw hn : Bool, condS (codes11.getD k 0) true (BitVec.ofInt 64 a) (BitVec.ofInt 64 b) = hw → condS (codes11.getD k 0) false (BitVec.ofInt 64 a) (BitVec.ofInt 64 b) = hn →
        ∀ c ∈ passN hw true 7 15 135 5 13 op a b ((n : Int) * 16) k (codes11.getD k 0) ++ passN hn false 4 12 132 6 14 op a b ((n : Int) * 16) k (codes11.getD k 0), c.1 = c.2 := by
      intro hw hn' e1 e2 c hc
      rcases List.mem_append.1 hc with hc | hc
      · exact passN_ok g0 d1 h128 d3'.1 hA hB ua ub hk k2 k3 l1 l3 e1 c hc
      · exact passN_ok g0 d2 h128 d3'.2 hA hB ua ub hk k2 k3 l2 l3 e2 c hc
    cases hw : condS (codes11.getD k 0) true (BitVec.ofInt 64 a) (BitVec.ofInt 64 b) <;> cases hn' : condS (codes11.getD k 0) false (BitVec.ofInt 64 a) (BitVec.ofInt 64 b)
    · exact reckonP_ok noNG (arHook_ok true false false) noLoop_low (noLoop_ok _) _ 100000 300 h10 rfl rfl (ar_100 op a b _ _ _) (all _ _ hw hn') w hL
    · exact reckonP_ok noNG (arHook_ok true false true) noLoop_low (noLoop_ok _) _ 100000 300 h10 rfl rfl (ar_101 op a b _ _ _) (all _ _ hw hn') w hL
    · exact reckonP_ok noNG (arHook_ok true true false) noLoop_low (noLoop_ok _) _ 100000 300 h10 rfl rfl (ar_110 op a b _ _ _) (all _ _ hw hn') w hL
    · exact reckonP_ok noNG (arHook_ok true true true) noLoop_low (noLoop_ok _) _ 100000 300 h10 rfl rfl (ar_111 op a b _ _ _) (all _ _ hw hn') w hL
theorem interpArith_law (op a b : Int) (h0 : (Lit.int .u8 op).wf = true) (h1 : (Lit.int .u64 a).wf = true) (h2 : (Lit.int .u64 b).wf = true) (w : World) (hL : TabAt w) : Calls Tryz.prog 4 #[.int .u8 op, .int .u64 a, .int .u64 b] w fun e w' => e = .returned (.bool true) ∧ Gr w w' := by
  simp [Lit.wf, IntKind.min, IntKind.max, IntKind.signed, IntKind.bits] at h0 h1 h2
  exact interpArith_walk op a b (by omega) (by omega) (by omega) (by omega) (by omega) w hL
end Go.Proofs.YthhgfjnnconocaaGreatDoor.Ex
