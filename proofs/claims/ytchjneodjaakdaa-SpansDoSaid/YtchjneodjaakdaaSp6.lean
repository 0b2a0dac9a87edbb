/-
  The law's own functions of layer 16: numbers around a number; the chapter's examples.
-/
import Derived.Test.YtchjneodjaakdaaSp5
import Derived.StillTailTactics
namespace Go.Proofs.Ytchjneodjaakdaa
open Go.RowKit
open Spn (Sp umax umin smax smin okS tightS anyS settledS commonS minW maxW constS addR subR SHas SValid SIn)
attribute [local go_sem] u64_wrap BitVec.ofInt_add ofInt_N ofInt_Nw u64_and u64_or u64_xor wrap64_N ofInt_Z64 max_N min_N max_Z min_Z w_add w_sub

def upW (v b : BitVec 64) : BitVec 64 := umin (umin (BitVec.ofInt 64 (9223372036854775807 - N v)) b) 9223372036854775807#64
def madeS (v b0 b1 b2 b3 : BitVec 64) : Sp := ⟨BitVec.ofInt 64 (N v - N (umin v b0)), v + umin (~~~v) b1, v - downW v b2, v + upW v b3⟩
theorem upW_N (v b : BitVec 64) : N (upW v b) = min (min (N (BitVec.ofInt 64 (9223372036854775807 - N v))) (N b)) 9223372036854775807 := by unfold upW; rw [Spn.N_umin, Spn.N_umin, N_max]
set_option maxHeartbeats 1000000 in
theorem law_up (v b : BitVec 64) (w : World) : Calls Try.prog 57 #[.int .u64 (N v), .int .u64 (N b)] w fun e w' => e = .returned (.int .i64 (Z (upW v b))) ∧ w' = w := by
  go_enter Try.func57, Try.ntmps57
  go_wp2
  all_goals go_ret
  all_goals refine ⟨congrArg (fun x => Ending.returned (.int .i64 x)) ?_, rfl⟩
  all_goals first | exact wrap_max.trans (congrArg Z (show 9223372036854775807#64 = upW v b from N_inj (by rw [upW_N, N_max]; omega))) | exact congrArg Z (show b = upW v b from N_inj (by rw [upW_N]; omega)) | exact congrArg Z (show BitVec.ofInt 64 (9223372036854775807 - N v) = upW v b from N_inj (by rw [upW_N]; omega))
set_option maxHeartbeats 1000000 in
theorem law_made (v b0 b1 b2 b3 : BitVec 64) (w : World) : Calls Try.prog 31 #[.int .u64 (N v), .agg #[.int .u64 (N b0), .int .u64 (N b1), .int .u64 (N b2), .int .u64 (N b3)]] w fun e w' => e = .returned (.agg #[.int .u64 (N (madeS v b0 b1 b2 b3).lo), .int .u64 (N (madeS v b0 b1 b2 b3).hi), .int .i64 (Z (madeS v b0 b1 b2 b3).slo), .int .i64 (Z (madeS v b0 b1 b2 b3).shi)]) ∧ w' = ((w.alloc (.cells #[.int .u64 (N b0), .int .u64 (N b1), .int .u64 (N b2), .int .u64 (N b3)] 46)).alloc (.cells #[.int .u64 (N (madeS v b0 b1 b2 b3).lo), .int .u64 (N (madeS v b0 b1 b2 b3).hi), .int .i64 (Z (madeS v b0 b1 b2 b3).slo), .int .i64 (Z (madeS v b0 b1 b2 b3).shi)] 49)).drew := by
  go_enter Try.func31, Try.ntmps31
  go_upto_region 1 with fail
  refine wp_region_still_tail 28 (by kernel_rfl) (by kernel_rfl) ?_
  simp only [List.take_succ_cons, List.take_zero, List.drop_succ_cons, List.drop_zero]
  change wpStill _ _ (World.drew ((w.alloc (.cells #[.int .u64 (N b0), .int .u64 (N b1), .int .u64 (N b2), .int .u64 (N b3)] 46)).alloc (.cells #[.int .u64 0, .int .u64 0, .int .i64 0, .int .i64 0] 49))) _ _ _
  repeat first | still_step | still_call law_down _ _ _ | still_call law_up _ _ _
  refine wpStill_nil ?_
  change wpList _ _ _ _ _ (World.drew ((w.alloc (.cells #[.int .u64 (N b0), .int .u64 (N b1), .int .u64 (N b2), .int .u64 (N b3)] 46)).alloc (.cells #[.int .u64 0, .int .u64 0, .int .i64 0, .int .i64 0] 49)))
  go_wp2
  all_goals go_returns
  all_goals exact ⟨rfl, rfl⟩
end Go.Proofs.Ytchjneodjaakdaa
