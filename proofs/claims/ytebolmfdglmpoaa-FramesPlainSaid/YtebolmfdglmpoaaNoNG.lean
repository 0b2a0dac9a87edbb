/-
  No function of the program is the one call that the model answers by itself.
-/
import Derived.Test.YtebolmfdglmpoaaEx3
import Derived.Test.YtebolmfdglmpoaaProg
namespace Go.Proofs.Ytebolmfdglmpoaa.Ex
open Go Go.RowKit
set_option maxRecDepth 1000000 in
theorem noNG : NoNG Try.prog := noNG_ok (by kernel_rfl)
end Go.Proofs.Ytebolmfdglmpoaa.Ex
