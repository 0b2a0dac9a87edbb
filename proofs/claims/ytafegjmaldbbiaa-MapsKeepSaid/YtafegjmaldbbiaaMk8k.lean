/-
  Layer 8: the law MapsKeep: its runs.
-/
import Derived.Test.YtafegjmaldbbiaaMk6
namespace Go.Proofs.Ytafegjmaldbbiaa.Ex
open Go Go.RowKit
set_option maxHeartbeats 0
set_option maxRecDepth 1000000
set_option linter.unusedVariables false
set_option linter.unusedSectionVars false
theorem mt_5_0 (A B : Int) (β : Nat → Value) : reckonPI Try.prog mk3 (mkO 5 0) (loopQHook [mkQ 5 A B β]) 100000 300 [] mkF [.int .u8 A, .int .u8 B] = some (.bool true, inter (mkP 5 0 A B)) := by kernel_rfl
theorem mt_7_1 (A B : Int) (β : Nat → Value) : reckonPI Try.prog mk3 (mkO 7 1) (loopQHook [mkQ 7 A B β]) 100000 300 [] mkF [.int .u8 A, .int .u8 B] = some (.bool true, inter (mkP 7 1 A B)) := by kernel_rfl
theorem mt_8_6 (A B : Int) (β : Nat → Value) : reckonPI Try.prog mk3 (mkO 8 6) (loopQHook [mkQ 8 A B β]) 100000 300 [] mkF [.int .u8 A, .int .u8 B] = some (.bool true, inter (mkP 8 6 A B)) := by kernel_rfl
theorem mt_10_1 (A B : Int) (β : Nat → Value) : reckonPI Try.prog mk3 (mkO 10 1) (loopQHook [mkQ 10 A B β]) 100000 300 [] mkF [.int .u8 A, .int .u8 B] = some (.bool true, inter (mkP 10 1 A B)) := by kernel_rfl
theorem mt_11_3 (A B : Int) (β : Nat → Value) : reckonPI Try.prog mk3 (mkO 11 3) (loopQHook [mkQ 11 A B β]) 100000 300 [] mkF [.int .u8 A, .int .u8 B] = some (.bool true, inter (mkP 11 3 A B)) := by kernel_rfl
theorem mt_12_4 (A B : Int) (β : Nat → Value) : reckonPI Try.prog mk3 (mkO 12 4) (loopQHook [mkQ 12 A B β]) 100000 300 [] mkF [.int .u8 A, .int .u8 B] = some (.bool true, inter (mkP 12 4 A B)) := by kernel_rfl
theorem mt_13_4 (A B : Int) (β : Nat → Value) : reckonPI Try.prog mk3 (mkO 13 4) (loopQHook [mkQ 13 A B β]) 100000 300 [] mkF [.int .u8 A, .int .u8 B] = some (.bool true, inter (mkP 13 4 A B)) := by kernel_rfl
theorem mt_14_3 (A B : Int) (β : Nat → Value) : reckonPI Try.prog mk3 (mkO 14 3) (loopQHook [mkQ 14 A B β]) 100000 300 [] mkF [.int .u8 A, .int .u8 B] = some (.bool true, inter (mkP 14 3 A B)) := by kernel_rfl
theorem mt_15_1 (A B : Int) (β : Nat → Value) : reckonPI Try.prog mk3 (mkO 15 1) (loopQHook [mkQ 15 A B β]) 100000 300 [] mkF [.int .u8 A, .int .u8 B] = some (.bool true, inter (mkP 15 1 A B)) := by kernel_rfl
theorem mt_15_13 (A B : Int) (β : Nat → Value) : reckonPI Try.prog mk3 (mkO 15 13) (loopQHook [mkQ 15 A B β]) 100000 300 [] mkF [.int .u8 A, .int .u8 B] = some (.bool true, inter (mkP 15 13 A B)) := by kernel_rfl
theorem mt_16_10 (A B : Int) (β : Nat → Value) : reckonPI Try.prog mk3 (mkO 16 10) (loopQHook [mkQ 16 A B β]) 100000 300 [] mkF [.int .u8 A, .int .u8 B] = some (.bool true, inter (mkP 16 10 A B)) := by kernel_rfl
end Go.Proofs.Ytafegjmaldbbiaa.Ex
