/-
  The law MemoryNone, reckoned.
-/
import Derived.Test.YtcpgbhmddfakgaaEx13
import Derived.Test.YtcpgbhmddfakgaaProg
namespace Go.Proofs.Ytcpgbhmddfakgaa.Ex
open Go Go.RowKit
set_option maxRecDepth 1000000 in
theorem memoryNone_walk (k a v n : Int) (w : World) : Calls Try.prog 4 #[.agg #[.int .u8 k, .int .u64 a, .int .u64 v, .int .i64 n]] w fun e w' => e = .returned (.bool true) ∧ Gr w w' :=
  reckon_ok 100000 300 rfl rfl (by kernel_rfl) w
end Go.Proofs.Ytcpgbhmddfakgaa.Ex
