/-
  Layer 8: the law MapsKeep: its runs.
-/
import Derived.Test.YtafegjmaldbbiaaMk6
namespace Go.Proofs.Ytafegjmaldbbiaa.Ex
open Go Go.RowKit
set_option maxHeartbeats 0
set_option maxRecDepth 1000000
set_option linter.unusedVariables false
set_option linter.unusedSectionVars false
theorem mt_4_2 (A B : Int) (β : Nat → Value) : reckonPI Try.prog mk3 (mkO 4 2) (loopQHook [mkQ 4 A B β]) 100000 300 [] mkF [.int .u8 A, .int .u8 B] = some (.bool true, inter (mkP 4 2 A B)) := by kernel_rfl
theorem mt_6_5 (A B : Int) (β : Nat → Value) : reckonPI Try.prog mk3 (mkO 6 5) (loopQHook [mkQ 6 A B β]) 100000 300 [] mkF [.int .u8 A, .int .u8 B] = some (.bool true, inter (mkP 6 5 A B)) := by kernel_rfl
theorem mt_8_4 (A B : Int) (β : Nat → Value) : reckonPI Try.prog mk3 (mkO 8 4) (loopQHook [mkQ 8 A B β]) 100000 300 [] mkF [.int .u8 A, .int .u8 B] = some (.bool true, inter (mkP 8 4 A B)) := by kernel_rfl
theorem mt_9_8 (A B : Int) (β : Nat → Value) : reckonPI Try.prog mk3 (mkO 9 8) (loopQHook [mkQ 9 A B β]) 100000 300 [] mkF [.int .u8 A, .int .u8 B] = some (.bool true, inter (mkP 9 8 A B)) := by kernel_rfl
theorem mt_11_1 (A B : Int) (β : Nat → Value) : reckonPI Try.prog mk3 (mkO 11 1) (loopQHook [mkQ 11 A B β]) 100000 300 [] mkF [.int .u8 A, .int .u8 B] = some (.bool true, inter (mkP 11 1 A B)) := by kernel_rfl
theorem mt_12_2 (A B : Int) (β : Nat → Value) : reckonPI Try.prog mk3 (mkO 12 2) (loopQHook [mkQ 12 A B β]) 100000 300 [] mkF [.int .u8 A, .int .u8 B] = some (.bool true, inter (mkP 12 2 A B)) := by kernel_rfl
theorem mt_13_2 (A B : Int) (β : Nat → Value) : reckonPI Try.prog mk3 (mkO 13 2) (loopQHook [mkQ 13 A B β]) 100000 300 [] mkF [.int .u8 A, .int .u8 B] = some (.bool true, inter (mkP 13 2 A B)) := by kernel_rfl
theorem mt_14_1 (A B : Int) (β : Nat → Value) : reckonPI Try.prog mk3 (mkO 14 1) (loopQHook [mkQ 14 A B β]) 100000 300 [] mkF [.int .u8 A, .int .u8 B] = some (.bool true, inter (mkP 14 1 A B)) := by kernel_rfl
theorem mt_14_13 (A B : Int) (β : Nat → Value) : reckonPI Try.prog mk3 (mkO 14 13) (loopQHook [mkQ 14 A B β]) 100000 300 [] mkF [.int .u8 A, .int .u8 B] = some (.bool true, inter (mkP 14 13 A B)) := by kernel_rfl
theorem mt_15_11 (A B : Int) (β : Nat → Value) : reckonPI Try.prog mk3 (mkO 15 11) (loopQHook [mkQ 15 A B β]) 100000 300 [] mkF [.int .u8 A, .int .u8 B] = some (.bool true, inter (mkP 15 11 A B)) := by kernel_rfl
theorem mt_16_8 (A B : Int) (β : Nat → Value) : reckonPI Try.prog mk3 (mkO 16 8) (loopQHook [mkQ 16 A B β]) 100000 300 [] mkF [.int .u8 A, .int .u8 B] = some (.bool true, inter (mkP 16 8 A B)) := by kernel_rfl
end Go.Proofs.Ytafegjmaldbbiaa.Ex
