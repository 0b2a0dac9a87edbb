/-
  Layer 8: the law MapsKeep: its runs.
-/
import Derived.Test.YtafegjmaldbbiaaMk6
namespace Go.Proofs.Ytafegjmaldbbiaa.Ex
open Go Go.RowKit
set_option maxHeartbeats 0
set_option maxRecDepth 1000000
set_option linter.unusedVariables false
set_option linter.unusedSectionVars false
theorem mt_3_0 (A B : Int) (β : Nat → Value) : reckonPI Try.prog mk3 (mkO 3 0) (loopQHook [mkQ 3 A B β]) 100000 300 [] mkF [.int .u8 A, .int .u8 B] = some (.bool true, inter (mkP 3 0 A B)) := by kernel_rfl
theorem mt_6_0 (A B : Int) (β : Nat → Value) : reckonPI Try.prog mk3 (mkO 6 0) (loopQHook [mkQ 6 A B β]) 100000 300 [] mkF [.int .u8 A, .int .u8 B] = some (.bool true, inter (mkP 6 0 A B)) := by kernel_rfl
theorem mt_7_6 (A B : Int) (β : Nat → Value) : reckonPI Try.prog mk3 (mkO 7 6) (loopQHook [mkQ 7 A B β]) 100000 300 [] mkF [.int .u8 A, .int .u8 B] = some (.bool true, inter (mkP 7 6 A B)) := by kernel_rfl
theorem mt_9_3 (A B : Int) (β : Nat → Value) : reckonPI Try.prog mk3 (mkO 9 3) (loopQHook [mkQ 9 A B β]) 100000 300 [] mkF [.int .u8 A, .int .u8 B] = some (.bool true, inter (mkP 9 3 A B)) := by kernel_rfl
theorem mt_10_6 (A B : Int) (β : Nat → Value) : reckonPI Try.prog mk3 (mkO 10 6) (loopQHook [mkQ 10 A B β]) 100000 300 [] mkF [.int .u8 A, .int .u8 B] = some (.bool true, inter (mkP 10 6 A B)) := by kernel_rfl
theorem mt_11_8 (A B : Int) (β : Nat → Value) : reckonPI Try.prog mk3 (mkO 11 8) (loopQHook [mkQ 11 A B β]) 100000 300 [] mkF [.int .u8 A, .int .u8 B] = some (.bool true, inter (mkP 11 8 A B)) := by kernel_rfl
theorem mt_12_9 (A B : Int) (β : Nat → Value) : reckonPI Try.prog mk3 (mkO 12 9) (loopQHook [mkQ 12 A B β]) 100000 300 [] mkF [.int .u8 A, .int .u8 B] = some (.bool true, inter (mkP 12 9 A B)) := by kernel_rfl
theorem mt_13_9 (A B : Int) (β : Nat → Value) : reckonPI Try.prog mk3 (mkO 13 9) (loopQHook [mkQ 13 A B β]) 100000 300 [] mkF [.int .u8 A, .int .u8 B] = some (.bool true, inter (mkP 13 9 A B)) := by kernel_rfl
theorem mt_14_8 (A B : Int) (β : Nat → Value) : reckonPI Try.prog mk3 (mkO 14 8) (loopQHook [mkQ 14 A B β]) 100000 300 [] mkF [.int .u8 A, .int .u8 B] = some (.bool true, inter (mkP 14 8 A B)) := by kernel_rfl
theorem mt_15_6 (A B : Int) (β : Nat → Value) : reckonPI Try.prog mk3 (mkO 15 6) (loopQHook [mkQ 15 A B β]) 100000 300 [] mkF [.int .u8 A, .int .u8 B] = some (.bool true, inter (mkP 15 6 A B)) := by kernel_rfl
theorem mt_16_3 (A B : Int) (β : Nat → Value) : reckonPI Try.prog mk3 (mkO 16 3) (loopQHook [mkQ 16 A B β]) 100000 300 [] mkF [.int .u8 A, .int .u8 B] = some (.bool true, inter (mkP 16 3 A B)) := by kernel_rfl
theorem mt_16_15 (A B : Int) (β : Nat → Value) : reckonPI Try.prog mk3 (mkO 16 15) (loopQHook [mkQ 16 A B β]) 100000 300 [] mkF [.int .u8 A, .int .u8 B] = some (.bool true, inter (mkP 16 15 A B)) := by kernel_rfl
end Go.Proofs.Ytafegjmaldbbiaa.Ex
