/-
  No function of the program is the one call that the model answers by itself.
-/
import Derived.Test.YtafegjmaldbbiaaEx3
import Derived.Test.YtafegjmaldbbiaaProg
namespace Go.Proofs.Ytafegjmaldbbiaa.Ex
open Go Go.RowKit
set_option maxRecDepth 1000000 in
theorem noNG : NoNG Try.prog := noNG_ok (by kernel_rfl)
end Go.Proofs.Ytafegjmaldbbiaa.Ex
