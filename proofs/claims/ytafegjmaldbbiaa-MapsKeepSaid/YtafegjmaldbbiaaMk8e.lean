/-
  Layer 8: the law MapsKeep: its runs.
-/
import Derived.Test.YtafegjmaldbbiaaMk6
namespace Go.Proofs.Ytafegjmaldbbiaa.Ex
open Go Go.RowKit
set_option maxHeartbeats 0
set_option maxRecDepth 1000000
set_option linter.unusedVariables false
set_option linter.unusedSectionVars false
theorem mt_3_1 (A B : Int) (β : Nat → Value) : reckonPI Try.prog mk3 (mkO 3 1) (loopQHook [mkQ 3 A B β]) 100000 300 [] mkF [.int .u8 A, .int .u8 B] = some (.bool true, inter (mkP 3 1 A B)) := by kernel_rfl
theorem mt_6_1 (A B : Int) (β : Nat → Value) : reckonPI Try.prog mk3 (mkO 6 1) (loopQHook [mkQ 6 A B β]) 100000 300 [] mkF [.int .u8 A, .int .u8 B] = some (.bool true, inter (mkP 6 1 A B)) := by kernel_rfl
theorem mt_8_0 (A B : Int) (β : Nat → Value) : reckonPI Try.prog mk3 (mkO 8 0) (loopQHook [mkQ 8 A B β]) 100000 300 [] mkF [.int .u8 A, .int .u8 B] = some (.bool true, inter (mkP 8 0 A B)) := by kernel_rfl
theorem mt_9_4 (A B : Int) (β : Nat → Value) : reckonPI Try.prog mk3 (mkO 9 4) (loopQHook [mkQ 9 A B β]) 100000 300 [] mkF [.int .u8 A, .int .u8 B] = some (.bool true, inter (mkP 9 4 A B)) := by kernel_rfl
theorem mt_10_7 (A B : Int) (β : Nat → Value) : reckonPI Try.prog mk3 (mkO 10 7) (loopQHook [mkQ 10 A B β]) 100000 300 [] mkF [.int .u8 A, .int .u8 B] = some (.bool true, inter (mkP 10 7 A B)) := by kernel_rfl
theorem mt_11_9 (A B : Int) (β : Nat → Value) : reckonPI Try.prog mk3 (mkO 11 9) (loopQHook [mkQ 11 A B β]) 100000 300 [] mkF [.int .u8 A, .int .u8 B] = some (.bool true, inter (mkP 11 9 A B)) := by kernel_rfl
theorem mt_12_10 (A B : Int) (β : Nat → Value) : reckonPI Try.prog mk3 (mkO 12 10) (loopQHook [mkQ 12 A B β]) 100000 300 [] mkF [.int .u8 A, .int .u8 B] = some (.bool true, inter (mkP 12 10 A B)) := by kernel_rfl
theorem mt_13_10 (A B : Int) (β : Nat → Value) : reckonPI Try.prog mk3 (mkO 13 10) (loopQHook [mkQ 13 A B β]) 100000 300 [] mkF [.int .u8 A, .int .u8 B] = some (.bool true, inter (mkP 13 10 A B)) := by kernel_rfl
theorem mt_14_9 (A B : Int) (β : Nat → Value) : reckonPI Try.prog mk3 (mkO 14 9) (loopQHook [mkQ 14 A B β]) 100000 300 [] mkF [.int .u8 A, .int .u8 B] = some (.bool true, inter (mkP 14 9 A B)) := by kernel_rfl
theorem mt_15_7 (A B : Int) (β : Nat → Value) : reckonPI Try.prog mk3 (mkO 15 7) (loopQHook [mkQ 15 A B β]) 100000 300 [] mkF [.int .u8 A, .int .u8 B] = some (.bool true, inter (mkP 15 7 A B)) := by kernel_rfl
theorem mt_16_4 (A B : Int) (β : Nat → Value) : reckonPI Try.prog mk3 (mkO 16 4) (loopQHook [mkQ 16 A B β]) 100000 300 [] mkF [.int .u8 A, .int .u8 B] = some (.bool true, inter (mkP 16 4 A B)) := by kernel_rfl
end Go.Proofs.Ytafegjmaldbbiaa.Ex
