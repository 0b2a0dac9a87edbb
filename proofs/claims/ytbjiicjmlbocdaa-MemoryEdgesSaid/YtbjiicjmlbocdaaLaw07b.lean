/-
  The chapter's example of layer 7, reckoned.
-/
import Derived.Test.YtbjiicjmlbocdaaEx13
import Derived.Test.YtbjiicjmlbocdaaNoNG
import Derived.Test.YtbjiicjmlbocdaaProg
namespace Go.Proofs.Ytbjiicjmlbocdaa.Ex
open Go Go.RowKit
set_option maxRecDepth 1000000 in
theorem laid_any (w : World) : Calls Try.prog 10 #[] w fun e w' => e = .returned (.bool true) ∧ Gr w w' :=
  reckon_ok noNG 100000 300 rfl rfl (by kernel_rfl) w
end Go.Proofs.Ytbjiicjmlbocdaa.Ex
