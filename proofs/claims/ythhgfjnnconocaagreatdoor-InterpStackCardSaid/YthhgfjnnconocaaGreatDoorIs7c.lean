/-
  Layer 10: the law InterpStack, reckoned: 4 bytes are loaded.
-/
import Derived.Test.YthhgfjnnconocaaGreatDoorPackE
namespace Go.Proofs.YthhgfjnnconocaaGreatDoor.Ex
set_option maxRecDepth 20000

open Go Go.RowKit
set_option maxHeartbeats 0
set_option maxRecDepth 1000000
set_option linter.unusedVariables false
set_option linter.unusedSectionVars false
theorem is_full2 (V a b c : Int) (D d k : Nat) : reckonPI Tryz.prog (fuHk 4 D d k) (isOrc V D k 2 true false yesB yesB) noLoop 100000 300 h10 5 [.int .u8 a, .int .u64 b, .int .u8 c] = some (.bool true, inter (fullP 2 4 8 41 10 41 V a b c D d k)) := by kernel_rfl
theorem is_part2 (V a b c : Int) (D d k : Nat) : reckonPI Tryz.prog (paHk 4 D d k) (isOrc V D k 2 false false yesB yesB) noLoop 100000 300 h10 5 [.int .u8 a, .int .u64 b, .int .u8 c] = some (.bool true, inter (partP 2 4 8 41 10 41 V a b c D d k)) := by kernel_rfl
theorem is_farA2 (V a b c : Int) (D d k : Nat) : reckonPI Tryz.prog (paHk 4 D d k) (isOrc V D k 2 false true no2B yesB) noLoop 100000 300 h10 5 [.int .u8 a, .int .u64 b, .int .u8 c] = some (.bool true, inter (farP 2 4 false true V a b c D d k)) := by kernel_rfl
theorem is_farB2 (V a b c : Int) (D d k : Nat) : reckonPI Tryz.prog (paHk 4 D d k) (isOrc V D k 2 false true yesB no2B) noLoop 100000 300 h10 5 [.int .u8 a, .int .u64 b, .int .u8 c] = some (.bool true, inter (farP 2 4 true false V a b c D d k)) := by kernel_rfl
end Go.Proofs.YthhgfjnnconocaaGreatDoor.Ex
