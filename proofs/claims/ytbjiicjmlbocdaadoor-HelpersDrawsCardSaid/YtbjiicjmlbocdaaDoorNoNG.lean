/-
  No function of the program is the one call that the model answers by itself.
-/
import Derived.Test.YtbjiicjmlbocdaaDoorEx3
import Derived.Test.YtbjiicjmlbocdaaDoorProg
namespace Go.Proofs.YtbjiicjmlbocdaaDoor.Ex
open Go Go.RowKit
set_option maxRecDepth 1000000 in
theorem noNG : NoNG Tryd.prog := noNG_ok (by kernel_rfl)
end Go.Proofs.YtbjiicjmlbocdaaDoor.Ex
