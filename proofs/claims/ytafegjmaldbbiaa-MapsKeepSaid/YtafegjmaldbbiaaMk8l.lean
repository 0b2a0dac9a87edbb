/-
  Layer 8: the law MapsKeep: its runs.
-/
import Derived.Test.YtafegjmaldbbiaaMk6
namespace Go.Proofs.Ytafegjmaldbbiaa.Ex
open Go Go.RowKit
set_option maxHeartbeats 0
set_option maxRecDepth 1000000
set_option linter.unusedVariables false
set_option linter.unusedSectionVars false
theorem mt_5_1 (A B : Int) (β : Nat → Value) : reckonPI Try.prog mk3 (mkO 5 1) (loopQHook [mkQ 5 A B β]) 100000 300 [] mkF [.int .u8 A, .int .u8 B] = some (.bool true, inter (mkP 5 1 A B)) := by kernel_rfl
theorem mt_7_2 (A B : Int) (β : Nat → Value) : reckonPI Try.prog mk3 (mkO 7 2) (loopQHook [mkQ 7 A B β]) 100000 300 [] mkF [.int .u8 A, .int .u8 B] = some (.bool true, inter (mkP 7 2 A B)) := by kernel_rfl
theorem mt_8_7 (A B : Int) (β : Nat → Value) : reckonPI Try.prog mk3 (mkO 8 7) (loopQHook [mkQ 8 A B β]) 100000 300 [] mkF [.int .u8 A, .int .u8 B] = some (.bool true, inter (mkP 8 7 A B)) := by kernel_rfl
theorem mt_10_2 (A B : Int) (β : Nat → Value) : reckonPI Try.prog mk3 (mkO 10 2) (loopQHook [mkQ 10 A B β]) 100000 300 [] mkF [.int .u8 A, .int .u8 B] = some (.bool true, inter (mkP 10 2 A B)) := by kernel_rfl
theorem mt_11_4 (A B : Int) (β : Nat → Value) : reckonPI Try.prog mk3 (mkO 11 4) (loopQHook [mkQ 11 A B β]) 100000 300 [] mkF [.int .u8 A, .int .u8 B] = some (.bool true, inter (mkP 11 4 A B)) := by kernel_rfl
theorem mt_12_5 (A B : Int) (β : Nat → Value) : reckonPI Try.prog mk3 (mkO 12 5) (loopQHook [mkQ 12 A B β]) 100000 300 [] mkF [.int .u8 A, .int .u8 B] = some (.bool true, inter (mkP 12 5 A B)) := by kernel_rfl
theorem mt_13_5 (A B : Int) (β : Nat → Value) : reckonPI Try.prog mk3 (mkO 13 5) (loopQHook [mkQ 13 A B β]) 100000 300 [] mkF [.int .u8 A, .int .u8 B] = some (.bool true, inter (mkP 13 5 A B)) := by kernel_rfl
theorem mt_14_4 (A B : Int) (β : Nat → Value) : reckonPI Try.prog mk3 (mkO 14 4) (loopQHook [mkQ 14 A B β]) 100000 300 [] mkF [.int .u8 A, .int .u8 B] = some (.bool true, inter (mkP 14 4 A B)) := by kernel_rfl
theorem mt_15_2 (A B : Int) (β : Nat → Value) : reckonPI Try.prog mk3 (mkO 15 2) (loopQHook [mkQ 15 A B β]) 100000 300 [] mkF [.int .u8 A, .int .u8 B] = some (.bool true, inter (mkP 15 2 A B)) := by kernel_rfl
theorem mt_15_14 (A B : Int) (β : Nat → Value) : reckonPI Try.prog mk3 (mkO 15 14) (loopQHook [mkQ 15 A B β]) 100000 300 [] mkF [.int .u8 A, .int .u8 B] = some (.bool true, inter (mkP 15 14 A B)) := by kernel_rfl
theorem mt_16_11 (A B : Int) (β : Nat → Value) : reckonPI Try.prog mk3 (mkO 16 11) (loopQHook [mkQ 16 A B β]) 100000 300 [] mkF [.int .u8 A, .int .u8 B] = some (.bool true, inter (mkP 16 11 A B)) := by kernel_rfl
end Go.Proofs.Ytafegjmaldbbiaa.Ex
