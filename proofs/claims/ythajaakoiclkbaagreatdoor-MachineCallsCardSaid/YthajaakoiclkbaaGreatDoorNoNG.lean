/-
  No function of the program is the one call that the model answers by itself.
-/
import Derived.Test.YthajaakoiclkbaaGreatDoorEx3
import Derived.Test.YthajaakoiclkbaaGreatDoorProg
namespace Go.Proofs.YthajaakoiclkbaaGreatDoor.Ex
open Go Go.RowKit
set_option maxRecDepth 1000000 in
theorem noNG : NoNG Tryz.prog := noNG_ok (by kernel_rfl)
end Go.Proofs.YthajaakoiclkbaaGreatDoor.Ex
