/-
  Layer 8: the law MapsKeep: its runs.
-/
import Derived.Test.YtafegjmaldbbiaaMk6
namespace Go.Proofs.Ytafegjmaldbbiaa.Ex
open Go Go.RowKit
set_option maxHeartbeats 0
set_option maxRecDepth 1000000
set_option linter.unusedVariables false
set_option linter.unusedSectionVars false
theorem mt_4_1 (A B : Int) (β : Nat → Value) : reckonPI Try.prog mk3 (mkO 4 1) (loopQHook [mkQ 4 A B β]) 100000 300 [] mkF [.int .u8 A, .int .u8 B] = some (.bool true, inter (mkP 4 1 A B)) := by kernel_rfl
theorem mt_6_4 (A B : Int) (β : Nat → Value) : reckonPI Try.prog mk3 (mkO 6 4) (loopQHook [mkQ 6 A B β]) 100000 300 [] mkF [.int .u8 A, .int .u8 B] = some (.bool true, inter (mkP 6 4 A B)) := by kernel_rfl
theorem mt_8_3 (A B : Int) (β : Nat → Value) : reckonPI Try.prog mk3 (mkO 8 3) (loopQHook [mkQ 8 A B β]) 100000 300 [] mkF [.int .u8 A, .int .u8 B] = some (.bool true, inter (mkP 8 3 A B)) := by kernel_rfl
theorem mt_9_7 (A B : Int) (β : Nat → Value) : reckonPI Try.prog mk3 (mkO 9 7) (loopQHook [mkQ 9 A B β]) 100000 300 [] mkF [.int .u8 A, .int .u8 B] = some (.bool true, inter (mkP 9 7 A B)) := by kernel_rfl
theorem mt_11_0 (A B : Int) (β : Nat → Value) : reckonPI Try.prog mk3 (mkO 11 0) (loopQHook [mkQ 11 A B β]) 100000 300 [] mkF [.int .u8 A, .int .u8 B] = some (.bool true, inter (mkP 11 0 A B)) := by kernel_rfl
theorem mt_12_1 (A B : Int) (β : Nat → Value) : reckonPI Try.prog mk3 (mkO 12 1) (loopQHook [mkQ 12 A B β]) 100000 300 [] mkF [.int .u8 A, .int .u8 B] = some (.bool true, inter (mkP 12 1 A B)) := by kernel_rfl
theorem mt_13_1 (A B : Int) (β : Nat → Value) : reckonPI Try.prog mk3 (mkO 13 1) (loopQHook [mkQ 13 A B β]) 100000 300 [] mkF [.int .u8 A, .int .u8 B] = some (.bool true, inter (mkP 13 1 A B)) := by kernel_rfl
theorem mt_14_0 (A B : Int) (β : Nat → Value) : reckonPI Try.prog mk3 (mkO 14 0) (loopQHook [mkQ 14 A B β]) 100000 300 [] mkF [.int .u8 A, .int .u8 B] = some (.bool true, inter (mkP 14 0 A B)) := by kernel_rfl
theorem mt_14_12 (A B : Int) (β : Nat → Value) : reckonPI Try.prog mk3 (mkO 14 12) (loopQHook [mkQ 14 A B β]) 100000 300 [] mkF [.int .u8 A, .int .u8 B] = some (.bool true, inter (mkP 14 12 A B)) := by kernel_rfl
theorem mt_15_10 (A B : Int) (β : Nat → Value) : reckonPI Try.prog mk3 (mkO 15 10) (loopQHook [mkQ 15 A B β]) 100000 300 [] mkF [.int .u8 A, .int .u8 B] = some (.bool true, inter (mkP 15 10 A B)) := by kernel_rfl
theorem mt_16_7 (A B : Int) (β : Nat → Value) : reckonPI Try.prog mk3 (mkO 16 7) (loopQHook [mkQ 16 A B β]) 100000 300 [] mkF [.int .u8 A, .int .u8 B] = some (.bool true, inter (mkP 16 7 A B)) := by kernel_rfl
end Go.Proofs.Ytafegjmaldbbiaa.Ex
