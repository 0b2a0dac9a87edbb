/-
  Layer 8: the law MapsKeep: its runs.
-/
import Derived.Test.YtafegjmaldbbiaaMk6
namespace Go.Proofs.Ytafegjmaldbbiaa.Ex
open Go Go.RowKit
set_option maxHeartbeats 0
set_option maxRecDepth 1000000
set_option linter.unusedVariables false
set_option linter.unusedSectionVars false
theorem mt_1_0 (A B : Int) (β : Nat → Value) : reckonPI Try.prog mk3 (mkO 1 0) (loopQHook [mkQ 1 A B β]) 100000 300 [] mkF [.int .u8 A, .int .u8 B] = some (.bool true, inter (mkP 1 0 A B)) := by kernel_rfl
theorem mt_5_2 (A B : Int) (β : Nat → Value) : reckonPI Try.prog mk3 (mkO 5 2) (loopQHook [mkQ 5 A B β]) 100000 300 [] mkF [.int .u8 A, .int .u8 B] = some (.bool true, inter (mkP 5 2 A B)) := by kernel_rfl
theorem mt_7_3 (A B : Int) (β : Nat → Value) : reckonPI Try.prog mk3 (mkO 7 3) (loopQHook [mkQ 7 A B β]) 100000 300 [] mkF [.int .u8 A, .int .u8 B] = some (.bool true, inter (mkP 7 3 A B)) := by kernel_rfl
theorem mt_9_0 (A B : Int) (β : Nat → Value) : reckonPI Try.prog mk3 (mkO 9 0) (loopQHook [mkQ 9 A B β]) 100000 300 [] mkF [.int .u8 A, .int .u8 B] = some (.bool true, inter (mkP 9 0 A B)) := by kernel_rfl
theorem mt_10_3 (A B : Int) (β : Nat → Value) : reckonPI Try.prog mk3 (mkO 10 3) (loopQHook [mkQ 10 A B β]) 100000 300 [] mkF [.int .u8 A, .int .u8 B] = some (.bool true, inter (mkP 10 3 A B)) := by kernel_rfl
theorem mt_11_5 (A B : Int) (β : Nat → Value) : reckonPI Try.prog mk3 (mkO 11 5) (loopQHook [mkQ 11 A B β]) 100000 300 [] mkF [.int .u8 A, .int .u8 B] = some (.bool true, inter (mkP 11 5 A B)) := by kernel_rfl
theorem mt_12_6 (A B : Int) (β : Nat → Value) : reckonPI Try.prog mk3 (mkO 12 6) (loopQHook [mkQ 12 A B β]) 100000 300 [] mkF [.int .u8 A, .int .u8 B] = some (.bool true, inter (mkP 12 6 A B)) := by kernel_rfl
theorem mt_13_6 (A B : Int) (β : Nat → Value) : reckonPI Try.prog mk3 (mkO 13 6) (loopQHook [mkQ 13 A B β]) 100000 300 [] mkF [.int .u8 A, .int .u8 B] = some (.bool true, inter (mkP 13 6 A B)) := by kernel_rfl
theorem mt_14_5 (A B : Int) (β : Nat → Value) : reckonPI Try.prog mk3 (mkO 14 5) (loopQHook [mkQ 14 A B β]) 100000 300 [] mkF [.int .u8 A, .int .u8 B] = some (.bool true, inter (mkP 14 5 A B)) := by kernel_rfl
theorem mt_15_3 (A B : Int) (β : Nat → Value) : reckonPI Try.prog mk3 (mkO 15 3) (loopQHook [mkQ 15 A B β]) 100000 300 [] mkF [.int .u8 A, .int .u8 B] = some (.bool true, inter (mkP 15 3 A B)) := by kernel_rfl
theorem mt_16_0 (A B : Int) (β : Nat → Value) : reckonPI Try.prog mk3 (mkO 16 0) (loopQHook [mkQ 16 A B β]) 100000 300 [] mkF [.int .u8 A, .int .u8 B] = some (.bool true, inter (mkP 16 0 A B)) := by kernel_rfl
theorem mt_16_12 (A B : Int) (β : Nat → Value) : reckonPI Try.prog mk3 (mkO 16 12) (loopQHook [mkQ 16 A B β]) 100000 300 [] mkF [.int .u8 A, .int .u8 B] = some (.bool true, inter (mkP 16 12 A B)) := by kernel_rfl
end Go.Proofs.Ytafegjmaldbbiaa.Ex
