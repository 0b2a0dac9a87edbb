/-
  Layer 8: the law MapsKeep: its runs.
-/
import Derived.Test.YtafegjmaldbbiaaMk6
namespace Go.Proofs.Ytafegjmaldbbiaa.Ex
open Go Go.RowKit
set_option maxHeartbeats 0
set_option maxRecDepth 1000000
set_option linter.unusedVariables false
set_option linter.unusedSectionVars false
theorem mt_2_1 (A B : Int) (β : Nat → Value) : reckonPI Try.prog mk3 (mkO 2 1) (loopQHook [mkQ 2 A B β]) 100000 300 [] mkF [.int .u8 A, .int .u8 B] = some (.bool true, inter (mkP 2 1 A B)) := by kernel_rfl
theorem mt_5_4 (A B : Int) (β : Nat → Value) : reckonPI Try.prog mk3 (mkO 5 4) (loopQHook [mkQ 5 A B β]) 100000 300 [] mkF [.int .u8 A, .int .u8 B] = some (.bool true, inter (mkP 5 4 A B)) := by kernel_rfl
theorem mt_7_5 (A B : Int) (β : Nat → Value) : reckonPI Try.prog mk3 (mkO 7 5) (loopQHook [mkQ 7 A B β]) 100000 300 [] mkF [.int .u8 A, .int .u8 B] = some (.bool true, inter (mkP 7 5 A B)) := by kernel_rfl
theorem mt_9_2 (A B : Int) (β : Nat → Value) : reckonPI Try.prog mk3 (mkO 9 2) (loopQHook [mkQ 9 A B β]) 100000 300 [] mkF [.int .u8 A, .int .u8 B] = some (.bool true, inter (mkP 9 2 A B)) := by kernel_rfl
theorem mt_10_5 (A B : Int) (β : Nat → Value) : reckonPI Try.prog mk3 (mkO 10 5) (loopQHook [mkQ 10 A B β]) 100000 300 [] mkF [.int .u8 A, .int .u8 B] = some (.bool true, inter (mkP 10 5 A B)) := by kernel_rfl
theorem mt_11_7 (A B : Int) (β : Nat → Value) : reckonPI Try.prog mk3 (mkO 11 7) (loopQHook [mkQ 11 A B β]) 100000 300 [] mkF [.int .u8 A, .int .u8 B] = some (.bool true, inter (mkP 11 7 A B)) := by kernel_rfl
theorem mt_12_8 (A B : Int) (β : Nat → Value) : reckonPI Try.prog mk3 (mkO 12 8) (loopQHook [mkQ 12 A B β]) 100000 300 [] mkF [.int .u8 A, .int .u8 B] = some (.bool true, inter (mkP 12 8 A B)) := by kernel_rfl
theorem mt_13_8 (A B : Int) (β : Nat → Value) : reckonPI Try.prog mk3 (mkO 13 8) (loopQHook [mkQ 13 A B β]) 100000 300 [] mkF [.int .u8 A, .int .u8 B] = some (.bool true, inter (mkP 13 8 A B)) := by kernel_rfl
theorem mt_14_7 (A B : Int) (β : Nat → Value) : reckonPI Try.prog mk3 (mkO 14 7) (loopQHook [mkQ 14 A B β]) 100000 300 [] mkF [.int .u8 A, .int .u8 B] = some (.bool true, inter (mkP 14 7 A B)) := by kernel_rfl
theorem mt_15_5 (A B : Int) (β : Nat → Value) : reckonPI Try.prog mk3 (mkO 15 5) (loopQHook [mkQ 15 A B β]) 100000 300 [] mkF [.int .u8 A, .int .u8 B] = some (.bool true, inter (mkP 15 5 A B)) := by kernel_rfl
theorem mt_16_2 (A B : Int) (β : Nat → Value) : reckonPI Try.prog mk3 (mkO 16 2) (loopQHook [mkQ 16 A B β]) 100000 300 [] mkF [.int .u8 A, .int .u8 B] = some (.bool true, inter (mkP 16 2 A B)) := by kernel_rfl
theorem mt_16_14 (A B : Int) (β : Nat → Value) : reckonPI Try.prog mk3 (mkO 16 14) (loopQHook [mkQ 16 A B β]) 100000 300 [] mkF [.int .u8 A, .int .u8 B] = some (.bool true, inter (mkP 16 14 A B)) := by kernel_rfl
end Go.Proofs.Ytafegjmaldbbiaa.Ex
