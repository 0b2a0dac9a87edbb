/-
  Layer 13: the law MachineJumps: its code's instructions, decoded where they stand (short jumps).
-/
import Derived.Test.YtpkjgcfdemnohaaGreatDoorPackC
namespace Go.Proofs.YtpkjgcfdemnohaaGreatDoor.Ex
open Go Go.RowKit
set_option linter.unusedVariables false
set_option maxHeartbeats 0
set_option maxRecDepth 1000000
variable (b0 b1 b2 b3 b4 b5 b6 b7 c0 c1 c2 c3 c4 c5 c6 c7 : UInt8)
theorem decT0 (y : UInt8) (m : Int) : ScOk Tryz.prog h14 109 ⟨[.string ⟨⟨codeJ true y b0 b1 b2 b3 b4 b5 b6 b7 c0 c1 c2 c3 c4 c5 c6 c7⟩⟩, .int .i64 0], .tuple ⟨[.agg ⟨xB 3 0 0 0 true false 1 0 0 0 m⟩, .int .i64 10, .int .i64 0]⟩, cAbs m 1 [b0, b1, b2, b3, b4, b5, b6, b7] 185⟩ := lf14 hkNum_ok (jOrc m) (by kernel_rfl) (by kernel_rfl) (by kernel_rfl)
theorem decT10 (y : UInt8) (m : Int) : ScOk Tryz.prog h14 109 ⟨[.string ⟨⟨codeJ true y b0 b1 b2 b3 b4 b5 b6 b7 c0 c1 c2 c3 c4 c5 c6 c7⟩⟩, .int .i64 10], .tuple ⟨[.agg ⟨xB 3 0 0 0 true false 2 0 0 0 m⟩, .int .i64 10, .int .i64 0]⟩, cAbs m 2 [c0, c1, c2, c3, c4, c5, c6, c7] 186⟩ := lf14 hkNum_ok (jOrc m) (by kernel_rfl) (by kernel_rfl) (by kernel_rfl)
theorem decT20 (y : UInt8) : ScOk Tryz.prog h14 109 ⟨[.string ⟨⟨codeJ true y b0 b1 b2 b3 b4 b5 b6 b7 c0 c1 c2 c3 c4 c5 c6 c7⟩⟩, .int .i64 20], .tuple ⟨[.agg ⟨xB 2 0 0 0 true false 0 0 0 0 1⟩, .int .i64 7, .int .i64 0]⟩, []⟩ := lf14 hkNum_ok noOrc (by kernel_rfl) (by kernel_rfl) (by kernel_rfl)
theorem decT27 (y : UInt8) : ScOk Tryz.prog h14 109 ⟨[.string ⟨⟨codeJ true y b0 b1 b2 b3 b4 b5 b6 b7 c0 c1 c2 c3 c4 c5 c6 c7⟩⟩, .int .i64 27], .tuple ⟨[.agg ⟨xB 4 7 0 0 true false 1 2 0 0 0⟩, .int .i64 3, .int .i64 0]⟩, []⟩ := lf14 hkNum_ok noOrc (by kernel_rfl) (by kernel_rfl) (by kernel_rfl)
theorem decT32 (y : UInt8) : ScOk Tryz.prog h14 109 ⟨[.string ⟨⟨codeJ true y b0 b1 b2 b3 b4 b5 b6 b7 c0 c1 c2 c3 c4 c5 c6 c7⟩⟩, .int .i64 32], .tuple ⟨[.agg ⟨xB 2 0 0 0 true false 0 0 0 0 0⟩, .int .i64 7, .int .i64 0]⟩, []⟩ := lf14 hkNum_ok noOrc (by kernel_rfl) (by kernel_rfl) (by kernel_rfl)
theorem decT39 (y : UInt8) : ScOk Tryz.prog h14 109 ⟨[.string ⟨⟨codeJ true y b0 b1 b2 b3 b4 b5 b6 b7 c0 c1 c2 c3 c4 c5 c6 c7⟩⟩, .int .i64 39], .tuple ⟨[.agg ⟨xB 19 0 0 0 false false 0 0 0 0 0⟩, .int .i64 1, .int .i64 0]⟩, []⟩ := lf14 hkNum_ok noOrc (by kernel_rfl) (by kernel_rfl) (by kernel_rfl)
theorem decT30_2  : ScOk Tryz.prog h14 109 ⟨[.string ⟨⟨codeJ true 114 b0 b1 b2 b3 b4 b5 b6 b7 c0 c1 c2 c3 c4 c5 c6 c7⟩⟩, .int .i64 30], .tuple ⟨[.agg ⟨xB 16 0 2 0 false true 0 0 0 7 0⟩, .int .i64 2, .int .i64 0]⟩, []⟩ := lf14 hkNum_ok noOrc (by kernel_rfl) (by kernel_rfl) (by kernel_rfl)
theorem decT30_3  : ScOk Tryz.prog h14 109 ⟨[.string ⟨⟨codeJ true 115 b0 b1 b2 b3 b4 b5 b6 b7 c0 c1 c2 c3 c4 c5 c6 c7⟩⟩, .int .i64 30], .tuple ⟨[.agg ⟨xB 16 0 3 0 false true 0 0 0 7 0⟩, .int .i64 2, .int .i64 0]⟩, []⟩ := lf14 hkNum_ok noOrc (by kernel_rfl) (by kernel_rfl) (by kernel_rfl)
theorem decT30_4  : ScOk Tryz.prog h14 109 ⟨[.string ⟨⟨codeJ true 116 b0 b1 b2 b3 b4 b5 b6 b7 c0 c1 c2 c3 c4 c5 c6 c7⟩⟩, .int .i64 30], .tuple ⟨[.agg ⟨xB 16 0 4 0 false true 0 0 0 7 0⟩, .int .i64 2, .int .i64 0]⟩, []⟩ := lf14 hkNum_ok noOrc (by kernel_rfl) (by kernel_rfl) (by kernel_rfl)
theorem decT30_5  : ScOk Tryz.prog h14 109 ⟨[.string ⟨⟨codeJ true 117 b0 b1 b2 b3 b4 b5 b6 b7 c0 c1 c2 c3 c4 c5 c6 c7⟩⟩, .int .i64 30], .tuple ⟨[.agg ⟨xB 16 0 5 0 false true 0 0 0 7 0⟩, .int .i64 2, .int .i64 0]⟩, []⟩ := lf14 hkNum_ok noOrc (by kernel_rfl) (by kernel_rfl) (by kernel_rfl)
theorem decT30_6  : ScOk Tryz.prog h14 109 ⟨[.string ⟨⟨codeJ true 118 b0 b1 b2 b3 b4 b5 b6 b7 c0 c1 c2 c3 c4 c5 c6 c7⟩⟩, .int .i64 30], .tuple ⟨[.agg ⟨xB 16 0 6 0 false true 0 0 0 7 0⟩, .int .i64 2, .int .i64 0]⟩, []⟩ := lf14 hkNum_ok noOrc (by kernel_rfl) (by kernel_rfl) (by kernel_rfl)
theorem decT30_7  : ScOk Tryz.prog h14 109 ⟨[.string ⟨⟨codeJ true 119 b0 b1 b2 b3 b4 b5 b6 b7 c0 c1 c2 c3 c4 c5 c6 c7⟩⟩, .int .i64 30], .tuple ⟨[.agg ⟨xB 16 0 7 0 false true 0 0 0 7 0⟩, .int .i64 2, .int .i64 0]⟩, []⟩ := lf14 hkNum_ok noOrc (by kernel_rfl) (by kernel_rfl) (by kernel_rfl)
theorem decT30_12  : ScOk Tryz.prog h14 109 ⟨[.string ⟨⟨codeJ true 124 b0 b1 b2 b3 b4 b5 b6 b7 c0 c1 c2 c3 c4 c5 c6 c7⟩⟩, .int .i64 30], .tuple ⟨[.agg ⟨xB 16 0 12 0 false true 0 0 0 7 0⟩, .int .i64 2, .int .i64 0]⟩, []⟩ := lf14 hkNum_ok noOrc (by kernel_rfl) (by kernel_rfl) (by kernel_rfl)
theorem decT30_13  : ScOk Tryz.prog h14 109 ⟨[.string ⟨⟨codeJ true 125 b0 b1 b2 b3 b4 b5 b6 b7 c0 c1 c2 c3 c4 c5 c6 c7⟩⟩, .int .i64 30], .tuple ⟨[.agg ⟨xB 16 0 13 0 false true 0 0 0 7 0⟩, .int .i64 2, .int .i64 0]⟩, []⟩ := lf14 hkNum_ok noOrc (by kernel_rfl) (by kernel_rfl) (by kernel_rfl)
theorem decT30_14  : ScOk Tryz.prog h14 109 ⟨[.string ⟨⟨codeJ true 126 b0 b1 b2 b3 b4 b5 b6 b7 c0 c1 c2 c3 c4 c5 c6 c7⟩⟩, .int .i64 30], .tuple ⟨[.agg ⟨xB 16 0 14 0 false true 0 0 0 7 0⟩, .int .i64 2, .int .i64 0]⟩, []⟩ := lf14 hkNum_ok noOrc (by kernel_rfl) (by kernel_rfl) (by kernel_rfl)
theorem decT30_15  : ScOk Tryz.prog h14 109 ⟨[.string ⟨⟨codeJ true 127 b0 b1 b2 b3 b4 b5 b6 b7 c0 c1 c2 c3 c4 c5 c6 c7⟩⟩, .int .i64 30], .tuple ⟨[.agg ⟨xB 16 0 15 0 false true 0 0 0 7 0⟩, .int .i64 2, .int .i64 0]⟩, []⟩ := lf14 hkNum_ok noOrc (by kernel_rfl) (by kernel_rfl) (by kernel_rfl)
end Go.Proofs.YtpkjgcfdemnohaaGreatDoor.Ex
