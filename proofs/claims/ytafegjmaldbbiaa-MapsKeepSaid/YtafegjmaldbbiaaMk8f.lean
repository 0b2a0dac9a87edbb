/-
  Layer 8: the law MapsKeep: its runs.
-/
import Derived.Test.YtafegjmaldbbiaaMk6
namespace Go.Proofs.Ytafegjmaldbbiaa.Ex
open Go Go.RowKit
set_option maxHeartbeats 0
set_option maxRecDepth 1000000
set_option linter.unusedVariables false
set_option linter.unusedSectionVars false
theorem mt_3_2 (A B : Int) (β : Nat → Value) : reckonPI Try.prog mk3 (mkO 3 2) (loopQHook [mkQ 3 A B β]) 100000 300 [] mkF [.int .u8 A, .int .u8 B] = some (.bool true, inter (mkP 3 2 A B)) := by kernel_rfl
theorem mt_6_2 (A B : Int) (β : Nat → Value) : reckonPI Try.prog mk3 (mkO 6 2) (loopQHook [mkQ 6 A B β]) 100000 300 [] mkF [.int .u8 A, .int .u8 B] = some (.bool true, inter (mkP 6 2 A B)) := by kernel_rfl
theorem mt_8_1 (A B : Int) (β : Nat → Value) : reckonPI Try.prog mk3 (mkO 8 1) (loopQHook [mkQ 8 A B β]) 100000 300 [] mkF [.int .u8 A, .int .u8 B] = some (.bool true, inter (mkP 8 1 A B)) := by kernel_rfl
theorem mt_9_5 (A B : Int) (β : Nat → Value) : reckonPI Try.prog mk3 (mkO 9 5) (loopQHook [mkQ 9 A B β]) 100000 300 [] mkF [.int .u8 A, .int .u8 B] = some (.bool true, inter (mkP 9 5 A B)) := by kernel_rfl
theorem mt_10_8 (A B : Int) (β : Nat → Value) : reckonPI Try.prog mk3 (mkO 10 8) (loopQHook [mkQ 10 A B β]) 100000 300 [] mkF [.int .u8 A, .int .u8 B] = some (.bool true, inter (mkP 10 8 A B)) := by kernel_rfl
theorem mt_11_10 (A B : Int) (β : Nat → Value) : reckonPI Try.prog mk3 (mkO 11 10) (loopQHook [mkQ 11 A B β]) 100000 300 [] mkF [.int .u8 A, .int .u8 B] = some (.bool true, inter (mkP 11 10 A B)) := by kernel_rfl
theorem mt_12_11 (A B : Int) (β : Nat → Value) : reckonPI Try.prog mk3 (mkO 12 11) (loopQHook [mkQ 12 A B β]) 100000 300 [] mkF [.int .u8 A, .int .u8 B] = some (.bool true, inter (mkP 12 11 A B)) := by kernel_rfl
theorem mt_13_11 (A B : Int) (β : Nat → Value) : reckonPI Try.prog mk3 (mkO 13 11) (loopQHook [mkQ 13 A B β]) 100000 300 [] mkF [.int .u8 A, .int .u8 B] = some (.bool true, inter (mkP 13 11 A B)) := by kernel_rfl
theorem mt_14_10 (A B : Int) (β : Nat → Value) : reckonPI Try.prog mk3 (mkO 14 10) (loopQHook [mkQ 14 A B β]) 100000 300 [] mkF [.int .u8 A, .int .u8 B] = some (.bool true, inter (mkP 14 10 A B)) := by kernel_rfl
theorem mt_15_8 (A B : Int) (β : Nat → Value) : reckonPI Try.prog mk3 (mkO 15 8) (loopQHook [mkQ 15 A B β]) 100000 300 [] mkF [.int .u8 A, .int .u8 B] = some (.bool true, inter (mkP 15 8 A B)) := by kernel_rfl
theorem mt_16_5 (A B : Int) (β : Nat → Value) : reckonPI Try.prog mk3 (mkO 16 5) (loopQHook [mkQ 16 A B β]) 100000 300 [] mkF [.int .u8 A, .int .u8 B] = some (.bool true, inter (mkP 16 5 A B)) := by kernel_rfl
end Go.Proofs.Ytafegjmaldbbiaa.Ex
