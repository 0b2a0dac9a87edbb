/-
  Layer 8: the law MapsKeep: its runs.
-/
import Derived.Test.YtafegjmaldbbiaaMk6
namespace Go.Proofs.Ytafegjmaldbbiaa.Ex
open Go Go.RowKit
set_option maxHeartbeats 0
set_option maxRecDepth 1000000
set_option linter.unusedVariables false
set_option linter.unusedSectionVars false
theorem mt_4_0 (A B : Int) (β : Nat → Value) : reckonPI Try.prog mk3 (mkO 4 0) (loopQHook [mkQ 4 A B β]) 100000 300 [] mkF [.int .u8 A, .int .u8 B] = some (.bool true, inter (mkP 4 0 A B)) := by kernel_rfl
theorem mt_6_3 (A B : Int) (β : Nat → Value) : reckonPI Try.prog mk3 (mkO 6 3) (loopQHook [mkQ 6 A B β]) 100000 300 [] mkF [.int .u8 A, .int .u8 B] = some (.bool true, inter (mkP 6 3 A B)) := by kernel_rfl
theorem mt_8_2 (A B : Int) (β : Nat → Value) : reckonPI Try.prog mk3 (mkO 8 2) (loopQHook [mkQ 8 A B β]) 100000 300 [] mkF [.int .u8 A, .int .u8 B] = some (.bool true, inter (mkP 8 2 A B)) := by kernel_rfl
theorem mt_9_6 (A B : Int) (β : Nat → Value) : reckonPI Try.prog mk3 (mkO 9 6) (loopQHook [mkQ 9 A B β]) 100000 300 [] mkF [.int .u8 A, .int .u8 B] = some (.bool true, inter (mkP 9 6 A B)) := by kernel_rfl
theorem mt_10_9 (A B : Int) (β : Nat → Value) : reckonPI Try.prog mk3 (mkO 10 9) (loopQHook [mkQ 10 A B β]) 100000 300 [] mkF [.int .u8 A, .int .u8 B] = some (.bool true, inter (mkP 10 9 A B)) := by kernel_rfl
theorem mt_12_0 (A B : Int) (β : Nat → Value) : reckonPI Try.prog mk3 (mkO 12 0) (loopQHook [mkQ 12 A B β]) 100000 300 [] mkF [.int .u8 A, .int .u8 B] = some (.bool true, inter (mkP 12 0 A B)) := by kernel_rfl
theorem mt_13_0 (A B : Int) (β : Nat → Value) : reckonPI Try.prog mk3 (mkO 13 0) (loopQHook [mkQ 13 A B β]) 100000 300 [] mkF [.int .u8 A, .int .u8 B] = some (.bool true, inter (mkP 13 0 A B)) := by kernel_rfl
theorem mt_13_12 (A B : Int) (β : Nat → Value) : reckonPI Try.prog mk3 (mkO 13 12) (loopQHook [mkQ 13 A B β]) 100000 300 [] mkF [.int .u8 A, .int .u8 B] = some (.bool true, inter (mkP 13 12 A B)) := by kernel_rfl
theorem mt_14_11 (A B : Int) (β : Nat → Value) : reckonPI Try.prog mk3 (mkO 14 11) (loopQHook [mkQ 14 A B β]) 100000 300 [] mkF [.int .u8 A, .int .u8 B] = some (.bool true, inter (mkP 14 11 A B)) := by kernel_rfl
theorem mt_15_9 (A B : Int) (β : Nat → Value) : reckonPI Try.prog mk3 (mkO 15 9) (loopQHook [mkQ 15 A B β]) 100000 300 [] mkF [.int .u8 A, .int .u8 B] = some (.bool true, inter (mkP 15 9 A B)) := by kernel_rfl
theorem mt_16_6 (A B : Int) (β : Nat → Value) : reckonPI Try.prog mk3 (mkO 16 6) (loopQHook [mkQ 16 A B β]) 100000 300 [] mkF [.int .u8 A, .int .u8 B] = some (.bool true, inter (mkP 16 6 A B)) := by kernel_rfl
end Go.Proofs.Ytafegjmaldbbiaa.Ex
