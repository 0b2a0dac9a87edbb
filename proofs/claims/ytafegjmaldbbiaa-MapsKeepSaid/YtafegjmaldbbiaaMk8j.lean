/-
  Layer 8: the law MapsKeep: its runs.
-/
import Derived.Test.YtafegjmaldbbiaaMk6
namespace Go.Proofs.Ytafegjmaldbbiaa.Ex
open Go Go.RowKit
set_option maxHeartbeats 0
set_option maxRecDepth 1000000
set_option linter.unusedVariables false
set_option linter.unusedSectionVars false
theorem mt_4_3 (A B : Int) (β : Nat → Value) : reckonPI Try.prog mk3 (mkO 4 3) (loopQHook [mkQ 4 A B β]) 100000 300 [] mkF [.int .u8 A, .int .u8 B] = some (.bool true, inter (mkP 4 3 A B)) := by kernel_rfl
theorem mt_7_0 (A B : Int) (β : Nat → Value) : reckonPI Try.prog mk3 (mkO 7 0) (loopQHook [mkQ 7 A B β]) 100000 300 [] mkF [.int .u8 A, .int .u8 B] = some (.bool true, inter (mkP 7 0 A B)) := by kernel_rfl
theorem mt_8_5 (A B : Int) (β : Nat → Value) : reckonPI Try.prog mk3 (mkO 8 5) (loopQHook [mkQ 8 A B β]) 100000 300 [] mkF [.int .u8 A, .int .u8 B] = some (.bool true, inter (mkP 8 5 A B)) := by kernel_rfl
theorem mt_10_0 (A B : Int) (β : Nat → Value) : reckonPI Try.prog mk3 (mkO 10 0) (loopQHook [mkQ 10 A B β]) 100000 300 [] mkF [.int .u8 A, .int .u8 B] = some (.bool true, inter (mkP 10 0 A B)) := by kernel_rfl
theorem mt_11_2 (A B : Int) (β : Nat → Value) : reckonPI Try.prog mk3 (mkO 11 2) (loopQHook [mkQ 11 A B β]) 100000 300 [] mkF [.int .u8 A, .int .u8 B] = some (.bool true, inter (mkP 11 2 A B)) := by kernel_rfl
theorem mt_12_3 (A B : Int) (β : Nat → Value) : reckonPI Try.prog mk3 (mkO 12 3) (loopQHook [mkQ 12 A B β]) 100000 300 [] mkF [.int .u8 A, .int .u8 B] = some (.bool true, inter (mkP 12 3 A B)) := by kernel_rfl
theorem mt_13_3 (A B : Int) (β : Nat → Value) : reckonPI Try.prog mk3 (mkO 13 3) (loopQHook [mkQ 13 A B β]) 100000 300 [] mkF [.int .u8 A, .int .u8 B] = some (.bool true, inter (mkP 13 3 A B)) := by kernel_rfl
theorem mt_14_2 (A B : Int) (β : Nat → Value) : reckonPI Try.prog mk3 (mkO 14 2) (loopQHook [mkQ 14 A B β]) 100000 300 [] mkF [.int .u8 A, .int .u8 B] = some (.bool true, inter (mkP 14 2 A B)) := by kernel_rfl
theorem mt_15_0 (A B : Int) (β : Nat → Value) : reckonPI Try.prog mk3 (mkO 15 0) (loopQHook [mkQ 15 A B β]) 100000 300 [] mkF [.int .u8 A, .int .u8 B] = some (.bool true, inter (mkP 15 0 A B)) := by kernel_rfl
theorem mt_15_12 (A B : Int) (β : Nat → Value) : reckonPI Try.prog mk3 (mkO 15 12) (loopQHook [mkQ 15 A B β]) 100000 300 [] mkF [.int .u8 A, .int .u8 B] = some (.bool true, inter (mkP 15 12 A B)) := by kernel_rfl
theorem mt_16_9 (A B : Int) (β : Nat → Value) : reckonPI Try.prog mk3 (mkO 16 9) (loopQHook [mkQ 16 A B β]) 100000 300 [] mkF [.int .u8 A, .int .u8 B] = some (.bool true, inter (mkP 16 9 A B)) := by kernel_rfl
end Go.Proofs.Ytafegjmaldbbiaa.Ex
