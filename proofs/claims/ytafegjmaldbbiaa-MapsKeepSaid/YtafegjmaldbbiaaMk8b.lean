/-
  Layer 8: the law MapsKeep: its runs.
-/
import Derived.Test.YtafegjmaldbbiaaMk6
namespace Go.Proofs.Ytafegjmaldbbiaa.Ex
open Go Go.RowKit
set_option maxHeartbeats 0
set_option maxRecDepth 1000000
set_option linter.unusedVariables false
set_option linter.unusedSectionVars false
theorem mt_2_0 (A B : Int) (β : Nat → Value) : reckonPI Try.prog mk3 (mkO 2 0) (loopQHook [mkQ 2 A B β]) 100000 300 [] mkF [.int .u8 A, .int .u8 B] = some (.bool true, inter (mkP 2 0 A B)) := by kernel_rfl
theorem mt_5_3 (A B : Int) (β : Nat → Value) : reckonPI Try.prog mk3 (mkO 5 3) (loopQHook [mkQ 5 A B β]) 100000 300 [] mkF [.int .u8 A, .int .u8 B] = some (.bool true, inter (mkP 5 3 A B)) := by kernel_rfl
theorem mt_7_4 (A B : Int) (β : Nat → Value) : reckonPI Try.prog mk3 (mkO 7 4) (loopQHook [mkQ 7 A B β]) 100000 300 [] mkF [.int .u8 A, .int .u8 B] = some (.bool true, inter (mkP 7 4 A B)) := by kernel_rfl
theorem mt_9_1 (A B : Int) (β : Nat → Value) : reckonPI Try.prog mk3 (mkO 9 1) (loopQHook [mkQ 9 A B β]) 100000 300 [] mkF [.int .u8 A, .int .u8 B] = some (.bool true, inter (mkP 9 1 A B)) := by kernel_rfl
theorem mt_10_4 (A B : Int) (β : Nat → Value) : reckonPI Try.prog mk3 (mkO 10 4) (loopQHook [mkQ 10 A B β]) 100000 300 [] mkF [.int .u8 A, .int .u8 B] = some (.bool true, inter (mkP 10 4 A B)) := by kernel_rfl
theorem mt_11_6 (A B : Int) (β : Nat → Value) : reckonPI Try.prog mk3 (mkO 11 6) (loopQHook [mkQ 11 A B β]) 100000 300 [] mkF [.int .u8 A, .int .u8 B] = some (.bool true, inter (mkP 11 6 A B)) := by kernel_rfl
theorem mt_12_7 (A B : Int) (β : Nat → Value) : reckonPI Try.prog mk3 (mkO 12 7) (loopQHook [mkQ 12 A B β]) 100000 300 [] mkF [.int .u8 A, .int .u8 B] = some (.bool true, inter (mkP 12 7 A B)) := by kernel_rfl
theorem mt_13_7 (A B : Int) (β : Nat → Value) : reckonPI Try.prog mk3 (mkO 13 7) (loopQHook [mkQ 13 A B β]) 100000 300 [] mkF [.int .u8 A, .int .u8 B] = some (.bool true, inter (mkP 13 7 A B)) := by kernel_rfl
theorem mt_14_6 (A B : Int) (β : Nat → Value) : reckonPI Try.prog mk3 (mkO 14 6) (loopQHook [mkQ 14 A B β]) 100000 300 [] mkF [.int .u8 A, .int .u8 B] = some (.bool true, inter (mkP 14 6 A B)) := by kernel_rfl
theorem mt_15_4 (A B : Int) (β : Nat → Value) : reckonPI Try.prog mk3 (mkO 15 4) (loopQHook [mkQ 15 A B β]) 100000 300 [] mkF [.int .u8 A, .int .u8 B] = some (.bool true, inter (mkP 15 4 A B)) := by kernel_rfl
theorem mt_16_1 (A B : Int) (β : Nat → Value) : reckonPI Try.prog mk3 (mkO 16 1) (loopQHook [mkQ 16 A B β]) 100000 300 [] mkF [.int .u8 A, .int .u8 B] = some (.bool true, inter (mkP 16 1 A B)) := by kernel_rfl
theorem mt_16_13 (A B : Int) (β : Nat → Value) : reckonPI Try.prog mk3 (mkO 16 13) (loopQHook [mkQ 16 A B β]) 100000 300 [] mkF [.int .u8 A, .int .u8 B] = some (.bool true, inter (mkP 16 13 A B)) := by kernel_rfl
end Go.Proofs.Ytafegjmaldbbiaa.Ex
