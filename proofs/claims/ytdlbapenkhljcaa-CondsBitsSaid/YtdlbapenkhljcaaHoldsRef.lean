/-
  The contract of the document's answer for conds.Holds.
-/
import Derived.Test.YtdlbapenkhljcaaHoldsMath
namespace Go.Proofs.Ytdlbapenkhljcaa
open Go.RowKit

attribute [local go_sem] u64_wrap u8_wrap BitVec.ofInt_add BitVec.ofInt_mul ofInt_sub' ofInt_N u64_and N_tdiv N_tmod

theorem cond_96 (wide : Bool) (a b : BitVec 64) : condS 96 wide a b = decide (0 < gO wide a b) := by unfold condS; generalize gO wide a b = g; rfl
theorem cond_112 (wide : Bool) (a b : BitVec 64) : condS 112 wide a b = decide (0 ≤ gO wide a b) := by unfold condS; generalize gO wide a b = g; rfl
theorem cond_192 (wide : Bool) (a b : BitVec 64) : condS 192 wide a b = decide (gO wide a b < 0) := by unfold condS; generalize gO wide a b = g; rfl
theorem cond_208 (wide : Bool) (a b : BitVec 64) : condS 208 wide a b = decide (gO wide a b ≤ 0) := by unfold condS; generalize gO wide a b = g; rfl

set_option maxRecDepth 100000 in
set_option maxHeartbeats 1000000 in
theorem refHolds64_0 (a b : BitVec 64) (w : World) : Calls Try.prog 29 #[.int .u8 0, .bool true, .int .u64 (N a), .int .u64 (N b)] w fun e w' => e = .returned (.bool (condS 0 true a b)) ∧ Grown w w' := by
  have hh := hi64_ne
  go_enter Try.func29, Try.ntmps29
  go_wp2_with (first | (go_at_call 22; refine (refLow_N _ _ _ (by decide) (by decide)).mono ?_; rintro e w' ⟨rfl, rfl⟩) | (go_at_call 31; refine (refPower64 _).mono ?_; rintro e w' ⟨rfl, rfl⟩))
  go_quiet (fail)
  go_wp2
  go_ret
  exact ⟨retB (rfl), grown_drewN (Grown.refl _) _⟩

set_option maxRecDepth 100000 in
set_option maxHeartbeats 1000000 in
theorem refHolds64_16 (a b : BitVec 64) (w : World) : Calls Try.prog 29 #[.int .u8 16, .bool true, .int .u64 (N a), .int .u64 (N b)] w fun e w' => e = .returned (.bool (condS 16 true a b)) ∧ Grown w w' := by
  have hh := hi64_ne
  go_enter Try.func29, Try.ntmps29
  go_wp2_with (first | (go_at_call 22; refine (refLow_N _ _ _ (by decide) (by decide)).mono ?_; rintro e w' ⟨rfl, rfl⟩) | (go_at_call 31; refine (refPower64 _).mono ?_; rintro e w' ⟨rfl, rfl⟩))
  go_quiet (fail)
  go_wp2
  go_ret
  exact ⟨retB (ds_eq _ _), grown_drewN (Grown.refl _) _⟩

set_option maxRecDepth 100000 in
set_option maxHeartbeats 1000000 in
theorem refHolds64_80 (a b : BitVec 64) (w : World) : Calls Try.prog 29 #[.int .u8 80, .bool true, .int .u64 (N a), .int .u64 (N b)] w fun e w' => e = .returned (.bool (condS 80 true a b)) ∧ Grown w w' := by
  have hh := hi64_ne
  go_enter Try.func29, Try.ntmps29
  go_wp2_with (first | (go_at_call 22; refine (refLow_N _ _ _ (by decide) (by decide)).mono ?_; rintro e w' ⟨rfl, rfl⟩) | (go_at_call 31; refine (refPower64 _).mono ?_; rintro e w' ⟨rfl, rfl⟩))
  go_quiet (fail)
  go_wp2
  go_ret
  exact ⟨retB (ds_ne _ _), grown_drewN (Grown.refl _) _⟩

set_option maxRecDepth 100000 in
set_option maxHeartbeats 1000000 in
theorem refHolds64_32 (a b : BitVec 64) (w : World) : Calls Try.prog 29 #[.int .u8 32, .bool true, .int .u64 (N a), .int .u64 (N b)] w fun e w' => e = .returned (.bool (condS 32 true a b)) ∧ Grown w w' := by
  have hh := hi64_ne
  go_enter Try.func29, Try.ntmps29
  go_wp2_with (first | (go_at_call 22; refine (refLow_N _ _ _ (by decide) (by decide)).mono ?_; rintro e w' ⟨rfl, rfl⟩) | (go_at_call 31; refine (refPower64 _).mono ?_; rintro e w' ⟨rfl, rfl⟩))
  go_quiet (fail)
  go_wp2
  go_ret
  exact ⟨retB (ds_gt _ _), grown_drewN (Grown.refl _) _⟩

set_option maxRecDepth 100000 in
set_option maxHeartbeats 1000000 in
theorem refHolds64_48 (a b : BitVec 64) (w : World) : Calls Try.prog 29 #[.int .u8 48, .bool true, .int .u64 (N a), .int .u64 (N b)] w fun e w' => e = .returned (.bool (condS 48 true a b)) ∧ Grown w w' := by
  have hh := hi64_ne
  go_enter Try.func29, Try.ntmps29
  go_wp2_with (first | (go_at_call 22; refine (refLow_N _ _ _ (by decide) (by decide)).mono ?_; rintro e w' ⟨rfl, rfl⟩) | (go_at_call 31; refine (refPower64 _).mono ?_; rintro e w' ⟨rfl, rfl⟩))
  go_quiet (fail)
  go_wp2
  go_ret
  exact ⟨retB (ds_ge _ _), grown_drewN (Grown.refl _) _⟩

set_option maxRecDepth 100000 in
set_option maxHeartbeats 1000000 in
theorem refHolds64_160 (a b : BitVec 64) (w : World) : Calls Try.prog 29 #[.int .u8 160, .bool true, .int .u64 (N a), .int .u64 (N b)] w fun e w' => e = .returned (.bool (condS 160 true a b)) ∧ Grown w w' := by
  have hh := hi64_ne
  go_enter Try.func29, Try.ntmps29
  go_wp2_with (first | (go_at_call 22; refine (refLow_N _ _ _ (by decide) (by decide)).mono ?_; rintro e w' ⟨rfl, rfl⟩) | (go_at_call 31; refine (refPower64 _).mono ?_; rintro e w' ⟨rfl, rfl⟩))
  go_quiet (fail)
  go_wp2
  go_ret
  exact ⟨retB (ds_lt _ _), grown_drewN (Grown.refl _) _⟩

set_option maxRecDepth 100000 in
set_option maxHeartbeats 1000000 in
theorem refHolds64_176 (a b : BitVec 64) (w : World) : Calls Try.prog 29 #[.int .u8 176, .bool true, .int .u64 (N a), .int .u64 (N b)] w fun e w' => e = .returned (.bool (condS 176 true a b)) ∧ Grown w w' := by
  have hh := hi64_ne
  go_enter Try.func29, Try.ntmps29
  go_wp2_with (first | (go_at_call 22; refine (refLow_N _ _ _ (by decide) (by decide)).mono ?_; rintro e w' ⟨rfl, rfl⟩) | (go_at_call 31; refine (refPower64 _).mono ?_; rintro e w' ⟨rfl, rfl⟩))
  go_quiet (fail)
  go_wp2
  go_ret
  exact ⟨retB (ds_le _ _), grown_drewN (Grown.refl _) _⟩

set_option maxRecDepth 100000 in
set_option maxHeartbeats 1000000 in
theorem refHolds64_96 (a b : BitVec 64) (w : World) : Calls Try.prog 29 #[.int .u8 96, .bool true, .int .u64 (N a), .int .u64 (N b)] w fun e w' => e = .returned (.bool (condS 96 true a b)) ∧ Grown w w' := by
  rw [cond_96]
  have hh := hi64_ne
  go_enter Try.func29, Try.ntmps29
  go_wp2_with (first | (go_at_call 22; refine (refLow_N _ _ _ (by decide) (by decide)).mono ?_; rintro e w' ⟨rfl, rfl⟩) | (go_at_call 31; refine (refPower64 _).mono ?_; rintro e w' ⟨rfl, rfl⟩))
  go_quiet (fail)
  go_wp2
  go_ret
  exact ⟨retB (c_gt64 a b), grown_drewN (Grown.refl _) _⟩

set_option maxRecDepth 100000 in
set_option maxHeartbeats 1000000 in
theorem refHolds64_112 (a b : BitVec 64) (w : World) : Calls Try.prog 29 #[.int .u8 112, .bool true, .int .u64 (N a), .int .u64 (N b)] w fun e w' => e = .returned (.bool (condS 112 true a b)) ∧ Grown w w' := by
  rw [cond_112]
  have hh := hi64_ne
  go_enter Try.func29, Try.ntmps29
  go_wp2_with (first | (go_at_call 22; refine (refLow_N _ _ _ (by decide) (by decide)).mono ?_; rintro e w' ⟨rfl, rfl⟩) | (go_at_call 31; refine (refPower64 _).mono ?_; rintro e w' ⟨rfl, rfl⟩))
  go_quiet (fail)
  go_wp2
  go_ret
  exact ⟨retB (c_ge64 a b), grown_drewN (Grown.refl _) _⟩

set_option maxRecDepth 100000 in
set_option maxHeartbeats 1000000 in
theorem refHolds64_192 (a b : BitVec 64) (w : World) : Calls Try.prog 29 #[.int .u8 192, .bool true, .int .u64 (N a), .int .u64 (N b)] w fun e w' => e = .returned (.bool (condS 192 true a b)) ∧ Grown w w' := by
  rw [cond_192]
  have hh := hi64_ne
  go_enter Try.func29, Try.ntmps29
  go_wp2_with (first | (go_at_call 22; refine (refLow_N _ _ _ (by decide) (by decide)).mono ?_; rintro e w' ⟨rfl, rfl⟩) | (go_at_call 31; refine (refPower64 _).mono ?_; rintro e w' ⟨rfl, rfl⟩))
  go_quiet (fail)
  go_wp2
  go_ret
  exact ⟨retB (c_lt64 a b), grown_drewN (Grown.refl _) _⟩

set_option maxRecDepth 100000 in
set_option maxHeartbeats 1000000 in
theorem refHolds64_208 (a b : BitVec 64) (w : World) : Calls Try.prog 29 #[.int .u8 208, .bool true, .int .u64 (N a), .int .u64 (N b)] w fun e w' => e = .returned (.bool (condS 208 true a b)) ∧ Grown w w' := by
  rw [cond_208]
  have hh := hi64_ne
  go_enter Try.func29, Try.ntmps29
  go_wp2_with (first | (go_at_call 22; refine (refLow_N _ _ _ (by decide) (by decide)).mono ?_; rintro e w' ⟨rfl, rfl⟩) | (go_at_call 31; refine (refPower64 _).mono ?_; rintro e w' ⟨rfl, rfl⟩))
  go_quiet (fail)
  go_wp2
  go_ret
  exact ⟨retB (c_le64 a b), grown_drewN (Grown.refl _) _⟩

set_option maxRecDepth 100000 in
set_option maxHeartbeats 1000000 in
theorem refHolds64_64 (a b : BitVec 64) (w : World) : Calls Try.prog 29 #[.int .u8 64, .bool true, .int .u64 (N a), .int .u64 (N b)] w fun e w' => e = .returned (.bool (condS 64 true a b)) ∧ Grown w w' := by
  have hh := hi64_ne
  go_enter Try.func29, Try.ntmps29
  go_wp2_with (first | (go_at_call 22; refine (refLow_N _ _ _ (by decide) (by decide)).mono ?_; rintro e w' ⟨rfl, rfl⟩) | (go_at_call 31; refine (refPower64 _).mono ?_; rintro e w' ⟨rfl, rfl⟩))
  go_quiet (fail)
  go_wp2
  go_ret
  exact ⟨retB (t_gt _ _), grown_drewN (Grown.refl _) _⟩

set_option maxRecDepth 100000 in
set_option maxHeartbeats 1000000 in
theorem refHolds64_none (x : Int) (hx : NoCond x) (a b : BitVec 64) (w : World) : Calls Try.prog 29 #[.int .u8 x, .bool true, .int .u64 (N a), .int .u64 (N b)] w fun e w' => e = .returned (.bool (condS x true a b)) ∧ Grown w w' := by
  have hd : condS x true a b = false := condO_none hx _ _ _
  rw [hd]
  obtain ⟨h1, h2, h3, h4, h5, h6, h7, h8, h9, h10, h11, h12⟩ := hx
  replace h1 := beq_eq_false_iff_ne.2 h1
  replace h2 := beq_eq_false_iff_ne.2 h2
  replace h3 := beq_eq_false_iff_ne.2 h3
  replace h4 := beq_eq_false_iff_ne.2 h4
  replace h5 := beq_eq_false_iff_ne.2 h5
  replace h6 := beq_eq_false_iff_ne.2 h6
  replace h7 := beq_eq_false_iff_ne.2 h7
  replace h8 := beq_eq_false_iff_ne.2 h8
  replace h9 := beq_eq_false_iff_ne.2 h9
  replace h10 := beq_eq_false_iff_ne.2 h10
  replace h11 := beq_eq_false_iff_ne.2 h11
  replace h12 := beq_eq_false_iff_ne.2 h12
  clear hd
  have hh := hi64_ne
  go_enter Try.func29, Try.ntmps29
  go_wp2_with (first | (go_at_call 22; refine (refLow_N _ _ _ (by decide) (by decide)).mono ?_; rintro e w' ⟨rfl, rfl⟩) | (go_at_call 31; refine (refPower64 _).mono ?_; rintro e w' ⟨rfl, rfl⟩))
  go_quiet (fail)
  go_wp2
  go_ret
  exact ⟨rfl, grown_drewN (Grown.refl _) _⟩

theorem refHolds64 (x : Int) (a b : BitVec 64) (w : World) : Calls Try.prog 29 #[.int .u8 x, .bool true, .int .u64 (N a), .int .u64 (N b)] w fun e w' => e = .returned (.bool (condS x true a b)) ∧ Grown w w' := by
  rcases cond_cases x with rfl | rfl | rfl | rfl | rfl | rfl | rfl | rfl | rfl | rfl | rfl | rfl | h
  · exact refHolds64_0 a b w
  · exact refHolds64_16 a b w
  · exact refHolds64_80 a b w
  · exact refHolds64_32 a b w
  · exact refHolds64_48 a b w
  · exact refHolds64_160 a b w
  · exact refHolds64_176 a b w
  · exact refHolds64_96 a b w
  · exact refHolds64_112 a b w
  · exact refHolds64_192 a b w
  · exact refHolds64_208 a b w
  · exact refHolds64_64 a b w
  · exact refHolds64_none x h a b w

set_option maxRecDepth 100000 in
set_option maxHeartbeats 1000000 in
theorem refHolds32_0 (a b : BitVec 64) (w : World) : Calls Try.prog 29 #[.int .u8 0, .bool false, .int .u64 (N a), .int .u64 (N b)] w fun e w' => e = .returned (.bool (condS 0 false a b)) ∧ Grown w w' := by
  have hh := hi32_ne
  go_enter Try.func29, Try.ntmps29
  go_wp2_with (first | (go_at_call 22; refine (refLow_N _ _ _ (by decide) (by decide)).mono ?_; rintro e w' ⟨rfl, rfl⟩) | (go_at_call 31; refine (refPower32 _).mono ?_; rintro e w' ⟨rfl, rfl⟩))
  go_quiet (fail)
  go_wp2
  go_ret
  exact ⟨retB (rfl), grown_drewN (Grown.refl _) _⟩

set_option maxRecDepth 100000 in
set_option maxHeartbeats 1000000 in
theorem refHolds32_16 (a b : BitVec 64) (w : World) : Calls Try.prog 29 #[.int .u8 16, .bool false, .int .u64 (N a), .int .u64 (N b)] w fun e w' => e = .returned (.bool (condS 16 false a b)) ∧ Grown w w' := by
  have hh := hi32_ne
  go_enter Try.func29, Try.ntmps29
  go_wp2_with (first | (go_at_call 22; refine (refLow_N _ _ _ (by decide) (by decide)).mono ?_; rintro e w' ⟨rfl, rfl⟩) | (go_at_call 31; refine (refPower32 _).mono ?_; rintro e w' ⟨rfl, rfl⟩))
  go_quiet (fail)
  go_wp2
  go_ret
  exact ⟨retB (ds_eq _ _), grown_drewN (Grown.refl _) _⟩

set_option maxRecDepth 100000 in
set_option maxHeartbeats 1000000 in
theorem refHolds32_80 (a b : BitVec 64) (w : World) : Calls Try.prog 29 #[.int .u8 80, .bool false, .int .u64 (N a), .int .u64 (N b)] w fun e w' => e = .returned (.bool (condS 80 false a b)) ∧ Grown w w' := by
  have hh := hi32_ne
  go_enter Try.func29, Try.ntmps29
  go_wp2_with (first | (go_at_call 22; refine (refLow_N _ _ _ (by decide) (by decide)).mono ?_; rintro e w' ⟨rfl, rfl⟩) | (go_at_call 31; refine (refPower32 _).mono ?_; rintro e w' ⟨rfl, rfl⟩))
  go_quiet (fail)
  go_wp2
  go_ret
  exact ⟨retB (ds_ne _ _), grown_drewN (Grown.refl _) _⟩

set_option maxRecDepth 100000 in
set_option maxHeartbeats 1000000 in
theorem refHolds32_32 (a b : BitVec 64) (w : World) : Calls Try.prog 29 #[.int .u8 32, .bool false, .int .u64 (N a), .int .u64 (N b)] w fun e w' => e = .returned (.bool (condS 32 false a b)) ∧ Grown w w' := by
  have hh := hi32_ne
  go_enter Try.func29, Try.ntmps29
  go_wp2_with (first | (go_at_call 22; refine (refLow_N _ _ _ (by decide) (by decide)).mono ?_; rintro e w' ⟨rfl, rfl⟩) | (go_at_call 31; refine (refPower32 _).mono ?_; rintro e w' ⟨rfl, rfl⟩))
  go_quiet (fail)
  go_wp2
  go_ret
  exact ⟨retB (ds_gt _ _), grown_drewN (Grown.refl _) _⟩

set_option maxRecDepth 100000 in
set_option maxHeartbeats 1000000 in
theorem refHolds32_48 (a b : BitVec 64) (w : World) : Calls Try.prog 29 #[.int .u8 48, .bool false, .int .u64 (N a), .int .u64 (N b)] w fun e w' => e = .returned (.bool (condS 48 false a b)) ∧ Grown w w' := by
  have hh := hi32_ne
  go_enter Try.func29, Try.ntmps29
  go_wp2_with (first | (go_at_call 22; refine (refLow_N _ _ _ (by decide) (by decide)).mono ?_; rintro e w' ⟨rfl, rfl⟩) | (go_at_call 31; refine (refPower32 _).mono ?_; rintro e w' ⟨rfl, rfl⟩))
  go_quiet (fail)
  go_wp2
  go_ret
  exact ⟨retB (ds_ge _ _), grown_drewN (Grown.refl _) _⟩

set_option maxRecDepth 100000 in
set_option maxHeartbeats 1000000 in
theorem refHolds32_160 (a b : BitVec 64) (w : World) : Calls Try.prog 29 #[.int .u8 160, .bool false, .int .u64 (N a), .int .u64 (N b)] w fun e w' => e = .returned (.bool (condS 160 false a b)) ∧ Grown w w' := by
  have hh := hi32_ne
  go_enter Try.func29, Try.ntmps29
  go_wp2_with (first | (go_at_call 22; refine (refLow_N _ _ _ (by decide) (by decide)).mono ?_; rintro e w' ⟨rfl, rfl⟩) | (go_at_call 31; refine (refPower32 _).mono ?_; rintro e w' ⟨rfl, rfl⟩))
  go_quiet (fail)
  go_wp2
  go_ret
  exact ⟨retB (ds_lt _ _), grown_drewN (Grown.refl _) _⟩

set_option maxRecDepth 100000 in
set_option maxHeartbeats 1000000 in
theorem refHolds32_176 (a b : BitVec 64) (w : World) : Calls Try.prog 29 #[.int .u8 176, .bool false, .int .u64 (N a), .int .u64 (N b)] w fun e w' => e = .returned (.bool (condS 176 false a b)) ∧ Grown w w' := by
  have hh := hi32_ne
  go_enter Try.func29, Try.ntmps29
  go_wp2_with (first | (go_at_call 22; refine (refLow_N _ _ _ (by decide) (by decide)).mono ?_; rintro e w' ⟨rfl, rfl⟩) | (go_at_call 31; refine (refPower32 _).mono ?_; rintro e w' ⟨rfl, rfl⟩))
  go_quiet (fail)
  go_wp2
  go_ret
  exact ⟨retB (ds_le _ _), grown_drewN (Grown.refl _) _⟩

set_option maxRecDepth 100000 in
set_option maxHeartbeats 1000000 in
theorem refHolds32_96 (a b : BitVec 64) (w : World) : Calls Try.prog 29 #[.int .u8 96, .bool false, .int .u64 (N a), .int .u64 (N b)] w fun e w' => e = .returned (.bool (condS 96 false a b)) ∧ Grown w w' := by
  rw [cond_96]
  have hh := hi32_ne
  go_enter Try.func29, Try.ntmps29
  go_wp2_with (first | (go_at_call 22; refine (refLow_N _ _ _ (by decide) (by decide)).mono ?_; rintro e w' ⟨rfl, rfl⟩) | (go_at_call 31; refine (refPower32 _).mono ?_; rintro e w' ⟨rfl, rfl⟩))
  go_quiet (fail)
  go_wp2
  go_ret
  exact ⟨retB (c_gt32 a b), grown_drewN (Grown.refl _) _⟩

set_option maxRecDepth 100000 in
set_option maxHeartbeats 1000000 in
theorem refHolds32_112 (a b : BitVec 64) (w : World) : Calls Try.prog 29 #[.int .u8 112, .bool false, .int .u64 (N a), .int .u64 (N b)] w fun e w' => e = .returned (.bool (condS 112 false a b)) ∧ Grown w w' := by
  rw [cond_112]
  have hh := hi32_ne
  go_enter Try.func29, Try.ntmps29
  go_wp2_with (first | (go_at_call 22; refine (refLow_N _ _ _ (by decide) (by decide)).mono ?_; rintro e w' ⟨rfl, rfl⟩) | (go_at_call 31; refine (refPower32 _).mono ?_; rintro e w' ⟨rfl, rfl⟩))
  go_quiet (fail)
  go_wp2
  go_ret
  exact ⟨retB (c_ge32 a b), grown_drewN (Grown.refl _) _⟩

set_option maxRecDepth 100000 in
set_option maxHeartbeats 1000000 in
theorem refHolds32_192 (a b : BitVec 64) (w : World) : Calls Try.prog 29 #[.int .u8 192, .bool false, .int .u64 (N a), .int .u64 (N b)] w fun e w' => e = .returned (.bool (condS 192 false a b)) ∧ Grown w w' := by
  rw [cond_192]
  have hh := hi32_ne
  go_enter Try.func29, Try.ntmps29
  go_wp2_with (first | (go_at_call 22; refine (refLow_N _ _ _ (by decide) (by decide)).mono ?_; rintro e w' ⟨rfl, rfl⟩) | (go_at_call 31; refine (refPower32 _).mono ?_; rintro e w' ⟨rfl, rfl⟩))
  go_quiet (fail)
  go_wp2
  go_ret
  exact ⟨retB (c_lt32 a b), grown_drewN (Grown.refl _) _⟩

set_option maxRecDepth 100000 in
set_option maxHeartbeats 1000000 in
theorem refHolds32_208 (a b : BitVec 64) (w : World) : Calls Try.prog 29 #[.int .u8 208, .bool false, .int .u64 (N a), .int .u64 (N b)] w fun e w' => e = .returned (.bool (condS 208 false a b)) ∧ Grown w w' := by
  rw [cond_208]
  have hh := hi32_ne
  go_enter Try.func29, Try.ntmps29
  go_wp2_with (first | (go_at_call 22; refine (refLow_N _ _ _ (by decide) (by decide)).mono ?_; rintro e w' ⟨rfl, rfl⟩) | (go_at_call 31; refine (refPower32 _).mono ?_; rintro e w' ⟨rfl, rfl⟩))
  go_quiet (fail)
  go_wp2
  go_ret
  exact ⟨retB (c_le32 a b), grown_drewN (Grown.refl _) _⟩

set_option maxRecDepth 100000 in
set_option maxHeartbeats 1000000 in
theorem refHolds32_64 (a b : BitVec 64) (w : World) : Calls Try.prog 29 #[.int .u8 64, .bool false, .int .u64 (N a), .int .u64 (N b)] w fun e w' => e = .returned (.bool (condS 64 false a b)) ∧ Grown w w' := by
  have hh := hi32_ne
  go_enter Try.func29, Try.ntmps29
  go_wp2_with (first | (go_at_call 22; refine (refLow_N _ _ _ (by decide) (by decide)).mono ?_; rintro e w' ⟨rfl, rfl⟩) | (go_at_call 31; refine (refPower32 _).mono ?_; rintro e w' ⟨rfl, rfl⟩))
  go_quiet (fail)
  go_wp2
  go_ret
  exact ⟨retB (t_gt _ _), grown_drewN (Grown.refl _) _⟩

set_option maxRecDepth 100000 in
set_option maxHeartbeats 1000000 in
theorem refHolds32_none (x : Int) (hx : NoCond x) (a b : BitVec 64) (w : World) : Calls Try.prog 29 #[.int .u8 x, .bool false, .int .u64 (N a), .int .u64 (N b)] w fun e w' => e = .returned (.bool (condS x false a b)) ∧ Grown w w' := by
  have hd : condS x false a b = false := condO_none hx _ _ _
  rw [hd]
  obtain ⟨h1, h2, h3, h4, h5, h6, h7, h8, h9, h10, h11, h12⟩ := hx
  replace h1 := beq_eq_false_iff_ne.2 h1
  replace h2 := beq_eq_false_iff_ne.2 h2
  replace h3 := beq_eq_false_iff_ne.2 h3
  replace h4 := beq_eq_false_iff_ne.2 h4
  replace h5 := beq_eq_false_iff_ne.2 h5
  replace h6 := beq_eq_false_iff_ne.2 h6
  replace h7 := beq_eq_false_iff_ne.2 h7
  replace h8 := beq_eq_false_iff_ne.2 h8
  replace h9 := beq_eq_false_iff_ne.2 h9
  replace h10 := beq_eq_false_iff_ne.2 h10
  replace h11 := beq_eq_false_iff_ne.2 h11
  replace h12 := beq_eq_false_iff_ne.2 h12
  clear hd
  have hh := hi32_ne
  go_enter Try.func29, Try.ntmps29
  go_wp2_with (first | (go_at_call 22; refine (refLow_N _ _ _ (by decide) (by decide)).mono ?_; rintro e w' ⟨rfl, rfl⟩) | (go_at_call 31; refine (refPower32 _).mono ?_; rintro e w' ⟨rfl, rfl⟩))
  go_quiet (fail)
  go_wp2
  go_ret
  exact ⟨rfl, grown_drewN (Grown.refl _) _⟩

theorem refHolds32 (x : Int) (a b : BitVec 64) (w : World) : Calls Try.prog 29 #[.int .u8 x, .bool false, .int .u64 (N a), .int .u64 (N b)] w fun e w' => e = .returned (.bool (condS x false a b)) ∧ Grown w w' := by
  rcases cond_cases x with rfl | rfl | rfl | rfl | rfl | rfl | rfl | rfl | rfl | rfl | rfl | rfl | h
  · exact refHolds32_0 a b w
  · exact refHolds32_16 a b w
  · exact refHolds32_80 a b w
  · exact refHolds32_32 a b w
  · exact refHolds32_48 a b w
  · exact refHolds32_160 a b w
  · exact refHolds32_176 a b w
  · exact refHolds32_96 a b w
  · exact refHolds32_112 a b w
  · exact refHolds32_192 a b w
  · exact refHolds32_208 a b w
  · exact refHolds32_64 a b w
  · exact refHolds32_none x h a b w
end Go.Proofs.Ytdlbapenkhljcaa
