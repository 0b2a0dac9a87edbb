/-
  No function of the program is the one call that the model answers by itself.
-/
import Derived.Test.YtbjiicjmlbocdaaEx3
import Derived.Test.YtbjiicjmlbocdaaProg
namespace Go.Proofs.Ytbjiicjmlbocdaa.Ex
open Go Go.RowKit
set_option maxRecDepth 1000000 in
theorem noNG : NoNG Try.prog := noNG_ok (by kernel_rfl)
end Go.Proofs.Ytbjiicjmlbocdaa.Ex
