/-
  Layer 12: the law CpuStays: its loop, reckoned (1).
-/
import Derived.Test.YtbaiokfjoglmiaaDoorCsO0
namespace Go.Proofs.YtbaiokfjoglmiaaDoor.Ex
open Go Go.RowKit
set_option maxHeartbeats 0
set_option maxRecDepth 1000000
set_option linter.unusedVariables false
theorem lp_nA0 (ρ : Nat → Int) (β : Nat → Value) : ([0, 1, 2, 3] : List Int).map (fun d => lRun false false d ρ β) = ([0, 1, 2, 3] : List Int).map (fun d => lAns false false d ρ β) := by kernel_rfl
theorem lp_nA1 (ρ : Nat → Int) (β : Nat → Value) : ([4, 5, 6, 7] : List Int).map (fun d => lRun false false d ρ β) = ([4, 5, 6, 7] : List Int).map (fun d => lAns false false d ρ β) := by kernel_rfl
theorem lp_nB0 (ρ : Nat → Int) (β : Nat → Value) : ([8, 9, 10, 11] : List Int).map (fun d => lRun false false d ρ β) = ([8, 9, 10, 11] : List Int).map (fun d => lAns false false d ρ β) := by kernel_rfl
theorem lp_nB1 (ρ : Nat → Int) (β : Nat → Value) : ([12, 13, 14, 15] : List Int).map (fun d => lRun false false d ρ β) = ([12, 13, 14, 15] : List Int).map (fun d => lAns false false d ρ β) := by kernel_rfl
end Go.Proofs.YtbaiokfjoglmiaaDoor.Ex
